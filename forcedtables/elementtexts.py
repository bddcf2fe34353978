"""How an element of a rule is written."""

from forcedtables.placing import numbers_of
from forcedtables.rules import need_element


def element_text(rule, element):
    """Return the text of the element."""
    need_element(rule, element)
    return " ".join([part_text(piece, part) for piece, part in zip(rule, element)])


def part_text(piece, part):
    """Give the word of an element of the piece."""
    *column, last = [str(number) for number in numbers_of(piece, part)]
    if piece[0] in ("turn", "act"):
        return ",".join(column) + ";" + last
    return ",".join([*column, last])
