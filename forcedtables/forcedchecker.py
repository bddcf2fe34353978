"""The checker of papers on what a count forces."""

from forcedtables.countchecker import need_count
from forcedtables.countparts import value_of
from forcedtables.errors import InvalidPaper
from forcedtables.forced import MOST_POWERS, rows_of
from forcedtables.kinds import is_number, need_kind
from forcedtables.rulechecker import is_rule, lets_rule
from forcedtables.shownchecker import lets_shown


def lets_forced(count, kind, thing):
    """Return what a paper states: whether each group of the count's value is of the kind."""
    need_count("count", count)
    need_kind("kind", kind)
    if not is_paper(thing):
        raise InvalidPaper("shape", -1)
    if thing[0] == "all":
        let_all(count, kind, thing[1])
        return True
    let_otherwise(count, kind, thing[1], thing[2])
    return False


def is_paper(thing):
    """Tell whether any value is a pair of 'all' and a tuple, or a triple of 'otherwise' and two values."""
    if not isinstance(thing, tuple) or not 2 <= len(thing) <= 3:
        return False
    if len(thing) == 3:
        return thing[0] == "otherwise"
    return thing[0] == "all" and isinstance(thing[1], tuple)


def let_all(count, kind, rows):
    """Raise InvalidPaper for the first thing that is wrong with the rows of a paper of all groups."""
    for at, pair in enumerate(count):
        if pair[1] > MOST_POWERS[kind]:
            raise InvalidPaper("excess", at)
    right = rows_of(count)
    if len(rows) != len(right):
        raise InvalidPaper("many", -1)
    for at, row in enumerate(rows):
        let_row(at, row, right[at])


def let_row(at, row, right):
    """Raise InvalidPaper for the first thing that is wrong with a row, this index and these numbers being right."""
    if not isinstance(row, tuple) or len(row) != len(right) or not all([is_number(number) for number in row]):
        raise InvalidPaper("row", at)
    for place, number in enumerate(row):
        if number != right[place]:
            raise InvalidPaper("number", (at, place))
        if number == 1:
            raise InvalidPaper("one", (at, place))


def let_otherwise(count, kind, rule, shown):
    """Raise InvalidPaper for the first thing that is wrong with a rule, and what is shown of it."""
    if not is_rule(rule) or lets_rule(rule) != value_of(count):
        raise InvalidPaper("rule", -1)
    lets_shown(rule, kind, shown)
