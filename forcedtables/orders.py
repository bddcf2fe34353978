"""The orders of elements and of rules."""

from math import gcd, lcm

from forcedtables.rulechecker import lets_rule, need_rule
from forcedtables.rules import (element_times, need_element, one_of, opened, part_one, part_raised, piece_span,
                                twist_of)


def order_of(rule, element):
    """Return the order of the element."""
    need_element(rule, element)
    order = 1
    for piece, part in zip(rule, element):
        order = lcm(order, part_order(piece, part))
    return order


def order_of_rule(rule):
    """Return how many elements the rule has."""
    need_rule("rule", rule)
    return lets_rule(rule)


def span_of(rule):
    """Return the least number, at least 1, by which each element gives one."""
    need_rule("rule", rule)
    span = 1
    for piece in rule:
        span = lcm(span, piece_span(piece))
    return span


def powers_of(rule, element):
    """Yield one, the element, two of it put together and so on, as many as its order says."""
    need_element(rule, element)
    one = one_of(rule)
    yield one
    here = element
    while here != one:
        yield here
        here = element_times(rule, here, element)


def part_order(piece, part):
    """Give the order of an element of the piece."""
    if piece[0] == "knot":
        return knot_order(piece, part)
    below, _, many = twist_of(piece)
    _, turns = opened(piece, part)
    rounds = many // gcd(turns, many)
    # So many times put together it is a column without a turn: this has an order as in rings.
    column, _ = opened(piece, part_raised(piece, part, rounds))
    shared = below
    for number in column:
        shared = gcd(shared, number)
    return rounds * (below // shared)


def knot_order(piece, part):
    """Give the order of an element of a knot."""
    if part == part_one(piece):
        return 1
    if part_raised(piece, part, piece[1]) == part_one(piece):
        return piece[1]
    return piece_span(piece)
