"""Counts that come from other counts."""

from forcedtables.countchecker import need_count
from forcedtables.countparts import power_of, primes_of
from forcedtables.errors import NotUsable
from forcedtables.kinds import MOST_POWER


def times(count, other):
    """Return the count of the product of both values."""
    both = powers_of_both(count, other)
    if not all([mine + theirs <= MOST_POWER for prime, mine, theirs in both]):
        raise NotUsable("other", -1)
    return tuple([(prime, mine + theirs) for prime, mine, theirs in both])


def over(count, other):
    """Return the count of the value divided by that of other."""
    both = powers_of_both(count, other)
    if not all([mine >= theirs for prime, mine, theirs in both]):
        raise NotUsable("other", -1)
    return tuple([(prime, mine - theirs) for prime, mine, theirs in both if mine > theirs])


def common(count, other):
    """Return the count of the greatest common divisor of both values."""
    both = powers_of_both(count, other)
    return tuple([(prime, min(mine, theirs)) for prime, mine, theirs in both if min(mine, theirs) > 0])


def joined(count, other):
    """Return the count of the least common multiple of both values."""
    both = powers_of_both(count, other)
    return tuple([(prime, max(mine, theirs)) for prime, mine, theirs in both])


def does_divide(count, other):
    """Tell whether the value of count divides that of other."""
    both = powers_of_both(count, other)
    return all([mine <= theirs for prime, mine, theirs in both])


def lifted(count, prime):
    """Return the count in which the power of the prime is greater by 1."""
    power = power_of(count, prime)
    if power == MOST_POWER:
        raise NotUsable("prime", -1)
    return with_power(count, prime, power + 1)


def lowered(count, prime):
    """Return the count in which the power of the prime is less by 1."""
    power = power_of(count, prime)
    if power == 0:
        raise NotUsable("prime", -1)
    return with_power(count, prime, power - 1)


def without_prime(count, prime):
    """Return the count in which the prime is not there."""
    if power_of(count, prime) == 0:
        raise NotUsable("prime", -1)
    return with_power(count, prime, 0)


def square_free_of(count):
    """Return the count with the same primes, all powers being 1."""
    return tuple([(prime, 1) for prime in primes_of(count)])


def with_power(count, prime, power):
    """Return the count in which the prime has this power, and is not there if this is 0."""
    pairs = [(own, height) for own, height in count if own != prime]
    if power > 0:
        pairs.append((prime, power))
    return tuple(sorted(pairs))


def powers_of_both(count, other):
    """Give (prime, its power in count, its power in other) for the primes of both, ascending."""
    need_count("count", count)
    need_count("other", other)
    mine = dict(count)
    theirs = dict(other)
    primes = sorted(list(mine) + [prime for prime in theirs if prime not in mine])
    return [(prime, mine.get(prime, 0), theirs.get(prime, 0)) for prime in primes]
