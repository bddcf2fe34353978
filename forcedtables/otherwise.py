"""Rules that are otherwise than the value of a count forces, where it does not force it."""

from forcedtables.countparts import value_of
from forcedtables.forced import acts_at, reasons_against
from forcedtables.placing import numbers_at
from forcedtables.powering import raised, raised_modulo, table_one, table_raised
from forcedtables.rulechecker import lets_rule


def piece_of_act(count, prime, other):
    """Return a piece in which prime acts on other, or None if it cannot."""
    size = acts_at(count, prime, other)
    if size is None:
        return None
    if size == 1:
        return ("act", other, prime, acting_number(prime, other))
    return ("turn", other, acting_table(prime, other, size), prime)


def not_cyclic(count):
    """Return a rule of the count's value that is not cyclic, or None if there is none."""
    return rule_against(count, "cyclic")


def not_commuting(count):
    """Return a rule of the count's value that does not commute, or None if there is none."""
    return rule_against(count, "commute")


def not_split(count):
    """Return a rule of the count's value that does not split, or None if there is none."""
    return rule_against(count, "split")


def rule_against(count, kind):
    """Return a rule of the count's value that is not of the kind, or None if there is none."""
    reasons = reasons_against(count, kind)
    if reasons == ():
        return None
    piece = piece_against(count, kind, reasons[0])
    rest = value_of(count) // lets_rule((piece,))
    if rest == 1:
        return (piece,)
    return (piece, ("ring", rest))


def piece_against(count, kind, reason):
    """Give a piece that is not of the kind for this reason."""
    if reason[0] == "act":
        return piece_of_act(count, reason[1], reason[2])
    if kind == "commute":
        return ("knot", reason[1])
    return ("power", reason[1], reason[2])


def acting_number(prime, other):
    """Give a number unlike 1 whose power by prime leaves 1 by other; prime divides other less 1."""
    base = 2
    number = raised_modulo(base, (other - 1) // prime, other)
    while number == 1:
        base = base + 1
        number = raised_modulo(base, (other - 1) // prime, other)
    return number


def acting_table(prime, other, size):
    """Give a table of this size, at least 2, that is not one, but its power by prime is, modulo other."""
    one = table_one(size)
    whole = raised(other, size)
    # Numbers below other stand for columns with a single number, which seldom serve.
    place = other
    table = one
    while table == one or table_raised(table, prime, other) != one:
        column = numbers_at((other,) * size, place)[::-1]
        table = table_raised(companion(column), (whole - 1) // prime, other)
        place = place + 1
    return table


def companion(column):
    """Give the table that makes of each place the next one, and of the last one this column."""
    rows = []
    for row, number in enumerate(column):
        # The column of a place is all 0 but for the 1 one place on.
        places = [1 if row == place + 1 else 0 for place in range(len(column) - 1)]
        rows.append((*places, number))
    return tuple(rows)
