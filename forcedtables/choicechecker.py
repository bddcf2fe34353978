"""The checker of choices, and the demand that an argument is a square-free count or a choice of it."""

from forcedtables.errors import InvalidPaper, NotUsable
from forcedtables.kinds import choice_fault, is_free


def lets_choice(count, thing):
    """Return how many primes act in a choice of the count, or raise InvalidPaper for what is none."""
    need_free("count", count)
    fault = choice_fault(count, thing)
    if fault is not None:
        word, at = fault
        raise InvalidPaper(word, at)
    return len(thing)


def need_free(name, thing):
    """Raise NotUsable with the name of the parameter for any value that is no square-free count."""
    if not is_free(thing):
        raise NotUsable(name, -1)


def need_choice(count, choice):
    """Raise NotUsable for what is no square-free count, and then for what is no choice of it."""
    need_free("count", count)
    if choice_fault(count, choice) is not None:
        raise NotUsable("choice", -1)
