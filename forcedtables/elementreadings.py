"""Elements of rules that are read from texts."""

from forcedtables.countreadings import number_read, words_of
from forcedtables.elementtexts import part_text
from forcedtables.errors import InvalidText
from forcedtables.kinds import is_below
from forcedtables.placing import bounds_of, part_with
from forcedtables.rulechecker import need_rule


def element_read(rule, text):
    """Return the element that the text writes, or raise InvalidText."""
    need_rule("rule", rule)
    words = words_of(text)
    parts = []
    for at, word in enumerate(words):
        part = part_read(rule[at], word) if at < len(rule) else None
        if part is None:
            raise InvalidText(0, at)
        parts.append(part)
    if len(parts) < len(rule):
        raise InvalidText(0, len(words))
    return tuple(parts)


def part_read(piece, word):
    """Return the element of the piece that a word writes, or None if it writes none."""
    bounds = bounds_of(piece)
    signs = word.replace(";", ",").split(",")
    if len(signs) != len(bounds):
        return None
    # A number below a bound is no longer than this, however long the bounds of a rule are.
    numbers = [number_read(sign, len(str(bound))) for sign, bound in zip(signs, bounds)]
    if not all([is_below(number, bound) for number, bound in zip(numbers, bounds)]):
        return None
    part = part_with(piece, tuple(numbers))
    # Only where it is written again does it show that each comma and semicolon is in its place.
    return part if part_text(piece, part) == word else None
