"""The checker of counts, and the demand that an argument is a count or a prime."""

from forcedtables.errors import InvalidPaper, NotUsable
from forcedtables.kinds import count_fault, is_count, is_prime
from forcedtables.powering import raised


def lets_count(thing):
    """Return the value of a count, or raise InvalidPaper for what is none."""
    fault = count_fault(thing)
    if fault is not None:
        word, at = fault
        raise InvalidPaper(word, at)
    value = 1
    for prime, power in thing:
        value = value * raised(prime, power)
    return value


def need_count(name, thing):
    """Raise NotUsable with the name of the parameter for any value that is no count."""
    if not is_count(thing):
        raise NotUsable(name, -1)


def need_prime(name, thing):
    """Raise NotUsable with the name of the parameter for any value that is no prime."""
    if not is_prime(thing):
        raise NotUsable(name, -1)
