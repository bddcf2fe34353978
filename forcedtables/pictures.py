"""Tables of elements, and stories of how they are put together."""

from forcedtables.elementtexts import element_text
from forcedtables.errors import NotUsable
from forcedtables.placing import number_of
from forcedtables.rulechecker import need_rule
from forcedtables.rules import element_times, has_parts, one_of


def table_of(rule, parts):
    """Return a row for each of the parts: it, put together with each of the parts behind it."""
    need_parts(rule, parts)
    return tuple([tuple([element_times(rule, part, other) for other in parts]) for part in parts])


def picture(rule, parts):
    """Return a string for each row of the table: the numbers of its elements."""
    rows = table_of(rule, parts)
    return [" ".join([str(number_of(rule, element)) for element in row]) for row in rows]


def story(rule, parts):
    """Return the texts of all places that are come to, from one on by each of the parts."""
    need_parts(rule, parts)
    here = one_of(rule)
    texts = [element_text(rule, here)]
    for part in parts:
        here = element_times(rule, here, part)
        texts.append(element_text(rule, here))
    return " > ".join(texts)


def need_parts(rule, parts):
    """Raise NotUsable for what is no rule, and then for what is no tuple of elements of it."""
    need_rule("rule", rule)
    if not isinstance(parts, tuple) or not all([has_parts(rule, part) for part in parts]):
        raise NotUsable("parts", -1)
