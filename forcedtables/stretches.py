"""How many groups there are, number by number."""

from forcedtables.choices import how_many_groups
from forcedtables.countparts import count_of
from forcedtables.errors import NotUsable
from forcedtables.kinds import is_free, is_integer, is_positive

LONGEST = 200
LAST_END = 10000


def groups_between(low, high):
    """Return the pairs (number, how many groups) of the square-free values from low on, below high."""
    need_stretch(low, high)
    counts = [(number, count_of(number)) for number in range(low, high)]
    # Where a number is no count's value, its count is None.
    return tuple([(number, how_many_groups(count)) for number, count in counts if is_free(count)])


def numbers_with(many, low, high):
    """Return the set of the square-free values from low on, below high, with just so many groups."""
    if not is_positive(many):
        raise NotUsable("many", -1)
    return tuple([number for number, groups in groups_between(low, high) if groups == many])


def need_stretch(low, high):
    """Raise NotUsable for what is no beginning of a stretch, and then for what is no end of it."""
    if not is_positive(low):
        raise NotUsable("low", -1)
    if not is_integer(high) or not low <= high <= min(low + LONGEST, LAST_END):
        raise NotUsable("high", -1)
