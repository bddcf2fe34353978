"""What a count tells of its value."""

from forcedtables.countchecker import lets_count, need_count, need_prime
from forcedtables.errors import NotUsable
from forcedtables.kinds import MOST_POWER, PRIME_END, is_positive, is_prime
from forcedtables.powering import raised


def value_of(count):
    """Return the value of the count."""
    need_count("count", count)
    return lets_count(count)


def primes_of(count):
    """Return the set of the primes of the count."""
    need_count("count", count)
    return tuple([prime for prime, power in count])


def power_of(count, prime):
    """Return the power of the prime in the count, 0 if it is none of its primes."""
    need_count("count", count)
    need_prime("prime", prime)
    for own, power in count:
        if own == prime:
            return power
    return 0


def has_prime(count, thing):
    """Tell whether any value is one of the primes of the count."""
    return is_prime(thing) and power_of(count, thing) > 0


def is_square_free(count):
    """Tell whether all powers of the count are 1."""
    need_count("count", count)
    return all([power == 1 for prime, power in count])


def how_many_divisors(count):
    """Return how many divisors the value of the count has."""
    need_count("count", count)
    many = 1
    for prime, power in count:
        many = many * (power + 1)
    return many


def units_of(count):
    """Return how many numbers from 1 to the value have no common divisor above 1 with it."""
    need_count("count", count)
    many = 1
    for prime, power in count:
        many = many * (prime - 1) * raised(prime, power - 1)
    return many


def count_of(number):
    """Return the count whose value the number is, or None if there is none."""
    if not is_positive(number):
        raise NotUsable("number", -1)
    pairs = []
    rest = number
    factor = 2
    # What is no prime divides no rest: its own primes have been divided out ahead of it.
    while rest > 1 and factor < PRIME_END:
        power, rest = divided_out(rest, factor)
        if power > MOST_POWER:
            return None
        if power > 0:
            pairs.append((factor, power))
        factor = factor + 1
    if rest > 1:
        return None
    return tuple(pairs)


def divided_out(number, factor):
    """Return how often the number can be divided by the factor, and what is left of it."""
    power = 0
    rest = number
    while rest % factor == 0:
        rest = rest // factor
        power = power + 1
    return power, rest
