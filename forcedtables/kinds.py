"""Which values are integers, primes, counts, choices, names and events.

What is called thing here can be any value. True and False are ints of Python,
but no integers here, so each number is asked for its kind before it is compared.
"""

from forcedtables.errors import NotUsable

PRIME_END = 10000
MOST_POWER = 6
LETTERS = "abcdefghijklmnopqrstuvwxyz"
LONGEST_NAME = 8
HOLDS = ("off", "cyclic", "commute", "split")
KINDS = ("cyclic", "commute", "split")


def is_integer(thing):
    """Tell whether any value is an integer."""
    return isinstance(thing, int) and not isinstance(thing, bool)


def is_number(thing):
    """Tell whether any value is an integer that is at least 0."""
    return is_integer(thing) and thing >= 0


def is_below(thing, bound):
    """Tell whether any value is a number below this bound."""
    return is_number(thing) and thing < bound


def is_positive(thing):
    """Tell whether any value is an integer that is at least 1."""
    return is_integer(thing) and thing >= 1


def is_power(thing):
    """Tell whether any value is an integer from 1 to 6."""
    return is_positive(thing) and thing <= MOST_POWER


def is_prime(thing):
    """Tell whether any value is a prime number below ten thousand."""
    if not is_below(thing, PRIME_END) or thing < 2:
        return False
    factor = 2
    while factor * factor <= thing:
        if thing % factor == 0:
            return False
        factor = factor + 1
    return True


def is_pair(thing):
    """Tell whether any value is a tuple of two values."""
    return isinstance(thing, tuple) and len(thing) == 2


def pair_fault(pair, before):
    """Return the word for what is wrong with a pair behind the prime before, or None."""
    if not is_pair(pair):
        return "pair"
    prime, power = pair
    if not is_prime(prime):
        return "prime"
    if prime <= before:
        return "order"
    if not is_power(power):
        return "power"
    return None


def count_fault(thing):
    """Return word and place of the first thing that is wrong with a count, or None."""
    if not isinstance(thing, tuple):
        return ("shape", -1)
    before = 0
    for at, pair in enumerate(thing):
        word = pair_fault(pair, before)
        if word is not None:
            return (word, at)
        before = pair[0]
    return None


def is_count(thing):
    """Tell whether any value is a count."""
    return count_fault(thing) is None


def is_free(thing):
    """Tell whether any value is a square-free count."""
    return is_count(thing) and all([pair[1] == 1 for pair in thing])


def choice_fault(count, thing):
    """Return word and place of the first thing that is wrong with a choice of a square-free count, or None."""
    if not isinstance(thing, tuple):
        return ("shape", -1)
    primes = [pair[0] for pair in count]
    before = 0
    for at, pair in enumerate(thing):
        if not is_acting(pair, primes):
            return ("pair", at)
        if pair[0] <= before:
            return ("order", at)
        before = pair[0]
    acting = [pair[0] for pair in thing]
    resting = [prime for prime in primes if prime not in acting]
    for at, pair in enumerate(thing):
        fault = row_fault(pair, resting, at)
        if fault is not None:
            return fault
    return None


def is_choice(count, thing):
    """Tell whether any values are a square-free count and a choice of it."""
    return is_free(count) and choice_fault(count, thing) is None


def is_acting(thing, primes):
    """Tell whether any value is a pair of one of these primes and a tuple."""
    return is_pair(thing) and is_prime(thing[0]) and thing[0] in primes and isinstance(thing[1], tuple)


def row_fault(pair, resting, at):
    """Return word and place of what is wrong with the row of an acting prime, this index being its own, or None."""
    prime, row = pair
    if len(row) != len(resting):
        return ("row", at)
    for place, number in enumerate(row):
        if not can_act(number, prime, resting[place]):
            return ("number", (at, place))
    acts = [number for number in row if number != 0]
    if len(acts) == 0:
        return ("nought", at)
    if acts[0] != 1:
        return ("first", at)
    return None


def can_act(thing, prime, other):
    """Tell whether any value is a number by which the prime can act on the other one."""
    return is_below(thing, prime) and (thing == 0 or does_reach(prime, other))


def does_reach(prime, other):
    """Tell whether the prime can act on the other one by a number that is not 0."""
    return (other - 1) % prime == 0


def is_name(thing):
    """Tell whether any value is a string of one to eight lowercase letters."""
    if not isinstance(thing, str) or not 1 <= len(thing) <= LONGEST_NAME:
        return False
    return all([sign in LETTERS for sign in thing])


def is_hold(thing):
    """Tell whether any value is a word that a live number can hold."""
    return isinstance(thing, str) and thing in HOLDS


def is_kind(thing):
    """Tell whether any value is the word of a kind of groups."""
    return isinstance(thing, str) and thing in KINDS


def need_kind(name, thing):
    """Raise NotUsable with the name of the parameter for any value that is no kind."""
    if not is_kind(thing):
        raise NotUsable(name, -1)


def is_event(thing):
    """Tell whether any value is an event of a live number by form."""
    if not is_pair(thing) or not isinstance(thing[0], str):
        return False
    word, about = thing
    if word in ("prime", "drop"):
        return is_prime(about)
    if word == "note":
        return is_name(about)
    return word == "hold" and is_hold(about)
