"""What a count forces of all groups of its value."""

from forcedtables.countchecker import need_count
from forcedtables.countparts import count_of, has_prime, power_of, primes_of
from forcedtables.errors import NotUsable
from forcedtables.kinds import KINDS, is_positive, need_kind

LAST_NUMBER = 9999
STRETCH = 200
# A prime with a power above this has a group of this power of it that is not of the kind.
MOST_POWERS = {"cyclic": 1, "commute": 2, "split": 6}


def all_cyclic(count):
    """Tell whether each group of the count's value is cyclic."""
    return forces(count, "cyclic")


def all_commute(count):
    """Tell whether each group of the count's value commutes."""
    return forces(count, "commute")


def all_split(count):
    """Tell whether each group of the count's value splits."""
    return forces(count, "split")


def kinds_forced(count):
    """Return the kinds of which each group of the count's value is, in order."""
    return tuple([kind for kind in KINDS if forces(count, kind)])


def acts_at(count, prime, other):
    """Return the least power of other, up to its own, that leaves 1 by prime, or None."""
    need_count("count", count)
    if not has_prime(count, prime):
        raise NotUsable("prime", -1)
    if not has_prime(count, other) or other == prime:
        raise NotUsable("other", -1)
    return first_one(remainders_of(prime, other, power_of(count, other)))


def reasons_against(count, kind):
    """Return the set of the reasons why not each group of the count's value is of the kind."""
    need_count("count", count)
    need_kind("kind", kind)
    found = []
    for (prime, other), row in zip(prime_pairs(count), rows_of(count)):
        power = first_one(row)
        if power is not None:
            found.append(("act", prime, other, power))
    for prime, power in count:
        if power > MOST_POWERS[kind]:
            found.append(("power", prime, power))
    return tuple(found)


def forced_between(first, last, kind):
    """Return the set of the values from first to last, both counted, that force the kind."""
    need_end("first", first, LAST_NUMBER)
    need_end("last", last, min(LAST_NUMBER, first + STRETCH - 1))
    need_kind("kind", kind)
    found = []
    for number in range(first, last + 1):
        count = count_of(number)
        if count is not None and forces(count, kind):
            found.append(number)
    return tuple(found)


def forces(count, kind):
    """Tell whether each group of the count's value is of the kind."""
    return reasons_against(count, kind) == ()


def prime_pairs(count):
    """Give the pairs of two unlike primes of the count, ascending."""
    primes = primes_of(count)
    return [(prime, other) for prime in primes for other in primes if prime != other]


def rows_of(count):
    """Give for each pair of unlike primes what other, up to its power, leaves by prime."""
    powers = dict(count)
    return tuple([remainders_of(prime, other, powers[other]) for prime, other in prime_pairs(count)])


def remainders_of(prime, other, power):
    """Give what other, other put to the power 2 and so on, up to this power, leave by prime."""
    found = []
    here = 1
    for _ in range(power):
        here = here * other % prime
        found.append(here)
    return tuple(found)


def first_one(remainders):
    """Give how many remainders there are up to the first one that is 1, or None if none is."""
    if 1 not in remainders:
        return None
    return remainders.index(1) + 1


def need_end(name, thing, greatest):
    """Raise NotUsable with the name of the parameter for what is no integer from 1 to the greatest."""
    if not is_positive(thing) or thing > greatest:
        raise NotUsable(name, -1)
