"""Rules that are judged: whether they are cyclic, commute, split, and what shows that they are not."""

from forcedtables.kinds import PRIME_END, need_kind
from forcedtables.orders import order_of_rule, span_of
from forcedtables.powering import column_times, table_one
from forcedtables.rulechecker import need_rule
from forcedtables.rules import closed, twist_of, with_part


def is_cyclic(rule):
    """Tell whether the group of the rule is cyclic."""
    # Where all elements commute, one of them has the span of the rule as its order.
    return does_commute(rule) and span_of(rule) == order_of_rule(rule)


def does_commute(rule):
    """Tell whether the group of the rule commutes."""
    return shown_against(rule, "commute") is None


def does_split(rule):
    """Tell whether the group of the rule splits."""
    return shown_against(rule, "split") is None


def shown_against(rule, kind):
    """Return what shows that the rule is not of the kind, or None if it is."""
    need_rule("rule", rule)
    need_kind("kind", kind)
    if kind == "split":
        return torn_in(rule)
    apart = apart_in(rule)
    if kind == "commute" or apart is not None:
        return apart
    return twins_in(rule)


def apart_in(rule):
    """Give two elements that cannot be exchanged, as a paper shows them, or None."""
    for at, piece in enumerate(rule):
        parts = parts_apart(piece)
        if parts is not None:
            first, second = parts
            return ("apart", with_part(rule, at, first), with_part(rule, at, second))
    return None


def torn_in(rule):
    """Give two such elements whose orders have no common divisor above 1, as a paper shows them, or None."""
    for at, piece in enumerate(rule):
        # The order of a knot is a power of its prime: it splits.
        parts = parts_turned(piece) if piece[0] != "knot" else None
        if parts is not None:
            first, second = parts
            below, _, many = twist_of(piece)
            return ("torn", with_part(rule, at, first), with_part(rule, at, second), below, many)
    return None


def twins_in(rule):
    """Give two elements of one prime order in a rule that commutes, as a paper shows them, or None."""
    if is_cyclic(rule):
        return None
    # Each prime of a rule within the limits is below this.
    for prime in range(2, PRIME_END):
        found = free_of_order(rule, prime)
        # The least number of which there are two is a prime: there are such of its own primes, too.
        if len(found) > 1:
            return ("twins", found[0], found[1], prime)
    return None


def free_of_order(rule, order):
    """Give elements of this order of a rule that commutes, none of which is made of the others."""
    found = []
    for at, piece in enumerate(rule):
        below, table, many = twist_of(piece)
        if below % order == 0:
            for row in table_one(len(table)):
                column = tuple([number * (below // order) for number in row])
                found.append(with_part(rule, at, closed(piece, column, 0)))
        if many % order == 0:
            found.append(with_part(rule, at, closed(piece, (0,) * len(table), many // order)))
    return found


def parts_apart(piece):
    """Give two elements of the piece that cannot be exchanged, or None."""
    if piece[0] == "knot":
        return (1, 0, 0), (0, 1, 0)
    return parts_turned(piece)


def parts_turned(piece):
    """Give a column that is turned, and a single turn, as elements of a piece that is no knot, or None."""
    below, table, _ = twist_of(piece)
    for row in table_one(len(table)):
        # Below 1 there is 0 alone.
        column = tuple([number % below for number in row])
        if column_times(table, column, below) != column:
            return closed(piece, column, 0), closed(piece, (0,) * len(row), 1)
    return None
