"""The elements of a rule by numbers, in the order in which Python sorts them.

An element is a row of numbers here, each with a bound of its own: they count
like digits, the first one being the greatest.
"""

from forcedtables.errors import NotUsable
from forcedtables.kinds import is_below
from forcedtables.rulechecker import lets_rule, need_rule
from forcedtables.rules import need_element


def element_at(rule, number):
    """Return the element of this number."""
    need_rule("rule", rule)
    if not is_below(number, lets_rule(rule)):
        raise NotUsable("number", -1)
    parts = []
    rest = number
    for piece in rule[::-1]:
        many = lets_rule((piece,))
        parts.append(part_with(piece, numbers_at(bounds_of(piece), rest % many)))
        rest = rest // many
    return tuple(parts[::-1])


def number_of(rule, element):
    """Return the number of the element."""
    need_element(rule, element)
    total = 0
    for piece, part in zip(rule, element):
        for bound, number in zip(bounds_of(piece), numbers_of(piece, part)):
            total = total * bound + number
    return total


def numbers_at(bounds, number):
    """Give the row of numbers below these bounds that has this number among all such rows."""
    found = []
    rest = number
    for bound in bounds[::-1]:
        found.append(rest % bound)
        rest = rest // bound
    return tuple(found[::-1])


def bounds_of(piece):
    """Give, for each number of an element of the piece, what it is below."""
    word, below = piece[0], piece[1]
    if word == "ring":
        return (below,)
    if word == "power":
        return (below,) * piece[2]
    if word == "knot":
        return (below,) * 3
    if word == "turn":
        return (below,) * len(piece[2]) + (piece[3],)
    return (below, piece[2])


def numbers_of(piece, part):
    """Give the numbers of an element of the piece, in order."""
    if piece[0] == "ring":
        return (part,)
    if piece[0] == "turn":
        return (*part[0], part[1])
    return part


def part_with(piece, numbers):
    """Give the element of the piece with these numbers."""
    if piece[0] == "ring":
        return numbers[0]
    if piece[0] == "turn":
        return (numbers[:-1], numbers[-1])
    return numbers
