"""Which values are integers, primes, counts, choices, names and events.

Every function here takes any value. True and False are ints of Python, but no
integers here, so each number is asked for its kind before it is compared.
"""

from forcedtables.errors import NotUsable

PRIME_END = 10000
MOST_POWER = 6
LETTERS = "abcdefghijklmnopqrstuvwxyz"
LONGEST_NAME = 8
HOLDS = ("off", "cyclic", "commute", "split")
KINDS = ("cyclic", "commute", "split")


def is_integer(thing):
    """Tell whether any value is an integer."""
    return isinstance(thing, int) and not isinstance(thing, bool)


def is_number(thing):
    """Tell whether any value is an integer that is at least 0."""
    return is_integer(thing) and thing >= 0


def is_below(thing, bound):
    """Tell whether any value is a number below this bound."""
    return is_number(thing) and thing < bound


def is_positive(thing):
    """Tell whether any value is an integer that is at least 1."""
    return is_integer(thing) and thing >= 1


def is_power(thing):
    """Tell whether any value is an integer from 1 to 6."""
    return is_positive(thing) and thing <= MOST_POWER


def is_prime(thing):
    """Tell whether any value is a prime number below ten thousand."""
    if not is_below(thing, PRIME_END) or thing < 2:
        return False
    factor = 2
    while factor * factor <= thing:
        if thing % factor == 0:
            return False
        factor = factor + 1
    return True


def is_pair(thing):
    """Tell whether any value is a tuple of two values."""
    return isinstance(thing, tuple) and len(thing) == 2


def pair_fault(pair, before):
    """Return the word for what is wrong with a pair behind the prime before, or None."""
    if not is_pair(pair):
        return "pair"
    prime, power = pair
    if not is_prime(prime):
        return "prime"
    if prime <= before:
        return "order"
    if not is_power(power):
        return "power"
    return None


def count_fault(thing):
    """Return word and place of the first thing that is wrong with a count, or None."""
    if not isinstance(thing, tuple):
        return ("shape", -1)
    before = 0
    for at, pair in enumerate(thing):
        word = pair_fault(pair, before)
        if word is not None:
            return (word, at)
        before = pair[0]
    return None


def is_count(thing):
    """Tell whether any value is a count."""
    return count_fault(thing) is None


def is_choice(count, thing):
    """Tell whether any values are a square-free count and a choice of it."""
    if not is_count(count) or not all([pair[1] == 1 for pair in count]):
        return False
    primes = [pair[0] for pair in count]
    if not isinstance(thing, tuple) or not all([is_acting(pair, primes) for pair in thing]):
        return False
    acting = [pair[0] for pair in thing]
    if not is_rising(acting):
        return False
    resting = [prime for prime in primes if prime not in acting]
    return all([is_row(row, prime, resting) for prime, row in thing])


def is_acting(thing, primes):
    """Tell whether any value is a pair that begins with one of these primes."""
    return is_pair(thing) and is_prime(thing[0]) and thing[0] in primes


def is_rising(numbers):
    """Tell whether each number is greater than the one before."""
    return all([numbers[at - 1] < numbers[at] for at in range(1, len(numbers))])


def is_row(thing, prime, resting):
    """Tell whether any value is the row of an acting prime for these primes at rest."""
    if not isinstance(thing, tuple) or len(thing) != len(resting):
        return False
    if not all([can_act(number, prime, other) for number, other in zip(thing, resting)]):
        return False
    acts = [number for number in thing if number != 0]
    return len(acts) > 0 and acts[0] == 1


def can_act(thing, prime, other):
    """Tell whether any value is a number by which the prime can act on the other one."""
    return is_below(thing, prime) and (thing == 0 or (other - 1) % prime == 0)


def is_name(thing):
    """Tell whether any value is a string of one to eight lowercase letters."""
    if not isinstance(thing, str) or not 1 <= len(thing) <= LONGEST_NAME:
        return False
    return all([sign in LETTERS for sign in thing])


def is_hold(thing):
    """Tell whether any value is a word that a live number can hold."""
    return isinstance(thing, str) and thing in HOLDS


def is_kind(thing):
    """Tell whether any value is the word of a kind of groups."""
    return isinstance(thing, str) and thing in KINDS


def need_kind(name, thing):
    """Raise NotUsable with the name of the parameter for any value that is no kind."""
    if not is_kind(thing):
        raise NotUsable(name, -1)


def is_event(thing):
    """Tell whether any value is an event of a live number by form."""
    if not is_pair(thing) or not isinstance(thing[0], str):
        return False
    word, about = thing
    if word in ("prime", "drop"):
        return is_prime(about)
    if word == "note":
        return is_name(about)
    return word == "hold" and is_hold(about)
