"""The elements of rules, and how they are put together.

A piece that is no knot is seen as a turn here: columns of numbers below a
modulus, turned by a square table. A ring and an act have columns of one number,
and a ring and a power have a single turn, which changes nothing.
"""

from forcedtables.errors import NotUsable
from forcedtables.kinds import is_below, is_integer, is_pair
from forcedtables.powering import column_plus, column_times, table_one, table_raised, table_times
from forcedtables.rulechecker import is_table_row, need_rule


def is_element(rule, thing):
    """Tell whether any value is an element of the rule."""
    need_rule("rule", rule)
    return has_parts(rule, thing)


def one_of(rule):
    """Return the element of the rule that changes nothing."""
    need_rule("rule", rule)
    return tuple([part_one(piece) for piece in rule])


def put_together(rule, element, other):
    """Return element other, put together in this order."""
    need_two(rule, element, other)
    return element_times(rule, element, other)


def product_of(rule, *parts):
    """Return all parts put together, the first one first."""
    need_rule("rule", rule)
    for at, part in enumerate(parts):
        if not has_parts(rule, part):
            raise NotUsable("parts", at)
    result = one_of(rule)
    for part in parts:
        result = element_times(rule, result, part)
    return result


def back(rule, element):
    """Return the element that gives one together with the element."""
    need_element(rule, element)
    return element_raised(rule, element, -1)


def to_the(rule, element, times):
    """Return the element, so many times put together."""
    need_element(rule, element)
    if not is_integer(times):
        raise NotUsable("times", -1)
    return element_raised(rule, element, times)


def commutes_with(rule, element, other):
    """Tell whether element other is other element."""
    need_two(rule, element, other)
    return element_times(rule, element, other) == element_times(rule, other, element)


def turned_by(rule, element, other):
    """Return back of other, element and other put together, in this order."""
    need_two(rule, element, other)
    ahead = element_times(rule, element_raised(rule, other, -1), element)
    return element_times(rule, ahead, other)


def swap_of(rule, element, other):
    """Return the element s such that element other is other element s."""
    need_two(rule, element, other)
    undone = element_raised(rule, element_times(rule, other, element), -1)
    return element_times(rule, undone, element_times(rule, element, other))


def need_element(rule, element):
    """Raise NotUsable for what is no rule, and then for what is no element of it."""
    need_rule("rule", rule)
    if not has_parts(rule, element):
        raise NotUsable("element", -1)


def need_two(rule, element, other):
    """Raise NotUsable for the first that is no rule, and then no element of it."""
    need_element(rule, element)
    if not has_parts(rule, other):
        raise NotUsable("other", -1)


def has_parts(rule, thing):
    """Tell whether any value is a tuple of an element of each piece."""
    if not isinstance(thing, tuple) or len(thing) != len(rule):
        return False
    return all([is_part(piece, part) for piece, part in zip(rule, thing)])


def is_part(piece, thing):
    """Tell whether any value is an element of the piece."""
    word, below = piece[0], piece[1]
    if word == "ring":
        return is_below(thing, below)
    if word == "power":
        return is_table_row(thing, piece[2], below)
    if word == "knot":
        return is_table_row(thing, 3, below)
    if not is_pair(thing):
        return False
    column, turns = thing
    if word == "turn":
        return is_table_row(column, len(piece[2]), below) and is_below(turns, piece[3])
    return is_below(column, below) and is_below(turns, piece[2])


def element_times(rule, element, other):
    """Give two elements put together."""
    return tuple([part_times(piece, part, late) for piece, part, late in zip(rule, element, other)])


def element_raised(rule, element, times):
    """Give the element, so many times put together, below 0 too."""
    # By its span each element of a piece gives one, so that a power below 0 is one above it.
    return tuple([part_raised(piece, part, times % piece_span(piece)) for piece, part in zip(rule, element)])


def with_part(rule, at, part):
    """Give the element with this part at the piece of this index, and what changes nothing at all others."""
    return tuple([part if place == at else part_one(piece) for place, piece in enumerate(rule)])


def part_one(piece):
    """Give the element of the piece that changes nothing."""
    if piece[0] == "knot":
        return (0, 0, 0)
    size = len(twist_of(piece)[1])
    return closed(piece, (0,) * size, 0)


def part_times(piece, part, other):
    """Give two elements of the piece put together."""
    if piece[0] == "knot":
        return knot_times(piece[1], part, other)
    below, table, many = twist_of(piece)
    column, turns = opened(piece, part)
    second, more = opened(piece, other)
    turned = column_times(table_raised(table, turns, below), second, below)
    return closed(piece, column_plus(column, turned, below), (turns + more) % many)


def part_raised(piece, part, times):
    """Give the element of the piece put together so many times, at least 0."""
    if piece[0] == "knot":
        return knot_raised(piece[1], part, times)
    below, table, many = twist_of(piece)
    column, turns = opened(piece, part)
    step = table_raised(table, turns, below)
    return closed(piece, turned_sum(step, column, times, below), turns * times % many)


def turned_sum(step, column, times, below):
    """Give the sum of the column, of it turned by the step once, twice and so on, so many of them."""
    total = (0,) * len(column)
    block, turn = column, step
    rest = times
    # The block is such a sum, of twice as many columns each time, and the turn is by as many steps.
    while rest > 0:
        if rest % 2 == 1:
            total = column_plus(block, column_times(turn, total, below), below)
        block = column_plus(block, column_times(turn, block, below), below)
        turn = table_times(turn, turn, below)
        rest = rest // 2
    return total


def knot_times(prime, part, other):
    """Give two elements of a knot put together."""
    a, b, c = part
    d, e, f = other
    return ((a + d) % prime, (b + e) % prime, (c + f + a * e) % prime)


def knot_raised(prime, part, times):
    """Give the element of a knot put together so many times."""
    a, b, c = part
    # Each two of them, one behind the other, give a times b once.
    pairs = times * (times - 1) // 2
    return (a * times % prime, b * times % prime, (c * times + a * b * pairs) % prime)


def piece_span(piece):
    """Give the least number, at least 1, by which each element of the piece gives one."""
    if piece == ("knot", 2):
        return 4
    if piece[0] == "knot":
        return piece[1]
    below, _, many = twist_of(piece)
    return below * many


def twist_of(piece):
    """Give modulus, table and number of turns of a piece that is no knot."""
    word, below = piece[0], piece[1]
    if word == "turn":
        return below, piece[2], piece[3]
    if word == "act":
        return below, ((piece[3],),), piece[2]
    if word == "power":
        return below, table_one(piece[2]), 1
    return below, table_one(1), 1


def opened(piece, part):
    """Give the column and the turns of an element of a piece that is no knot."""
    word = piece[0]
    if word == "ring":
        return (part,), 0
    if word == "power":
        return part, 0
    if word == "act":
        return (part[0],), part[1]
    return part


def closed(piece, column, turns):
    """Give the element of a piece that is no knot with this column and these turns."""
    word = piece[0]
    if word == "ring":
        return column[0]
    if word == "power":
        return column
    if word == "act":
        return (column[0], turns)
    return (column, turns)
