"""The choices of a square-free count: which primes act on which, and the groups of these."""

from forcedtables.choicechecker import need_choice, need_free
from forcedtables.countchecker import need_prime
from forcedtables.countparts import primes_of
from forcedtables.errors import NotUsable
from forcedtables.kinds import does_reach
from forcedtables.powering import raised, raised_modulo


def root_of(prime, other):
    """Return the root of prime at other: the least number above 1 whose power by it leaves 1 by other."""
    need_prime("prime", prime)
    need_prime("other", other)
    if not does_reach(prime, other):
        raise NotUsable("other", -1)
    return min(roots_of(prime, other))


def at_rest(count, choice):
    """Return the set of the primes of the count that do not act."""
    need_choice(count, choice)
    acting = [prime for prime, row in choice]
    return tuple([prime for prime in primes_of(count) if prime not in acting])


def how_many_groups(count):
    """Return how many choices the count has."""
    need_free("count", count)
    return sum([multiplied([how_many_rows(prime, resting) for prime in primes_beside(count, resting)])
                for resting in rests_of(count)])


def choices_of(count):
    """Return the set of all choices of the count."""
    need_free("count", count)
    return tuple(sorted([choice for resting in rests_of(count) for choice in choices_beside(count, resting)]))


def group_of(count, choice):
    """Return the group of the choice, a rule."""
    resting = at_rest(count, choice)
    below = multiplied(resting)
    many = multiplied([prime for prime, row in choice])
    factor = sum([turned_at(choice, at, other) * share_of(other, below) for at, other in enumerate(resting)])
    return (("act", below, many, factor % below),)


def roots_of(prime, other):
    """Give all numbers above 1 whose power by prime leaves 1 by other, prime dividing other less 1."""
    root = 1
    base = 2
    # By this power each number becomes 1 or such a root, and one that becomes a root is found soon.
    while root == 1:
        root = raised_modulo(base, (other - 1) // prime, other)
        base = base + 1
    found = []
    here = root
    while here != 1:
        found.append(here)
        here = here * root % other
    return found


def multiplied(numbers):
    """Give the product of all these numbers."""
    product = 1
    for number in numbers:
        product = product * number
    return product


def share_of(prime, whole):
    """Give the number that leaves 1 by this prime of whole, where it stands once, and 0 by what else is in whole."""
    rest = whole // prime
    # By the power prime - 2 rest becomes what takes it back, by prime.
    return rest * raised_modulo(rest, prime - 2, prime)


def rests_of(count):
    """Give all sets of primes of the count that can be at rest: each other prime can act on one of them."""
    found = [()]
    # A prime acts on greater ones alone, so that these are already known to be at rest or not.
    for prime in primes_of(count)[::-1]:
        resting = [(prime, *others) for others in found]
        found = resting + [others for others in found if how_many_rows(prime, others) > 0]
    return found


def primes_beside(count, resting):
    """Give the primes of the count that are not among these at rest."""
    return [prime for prime in primes_of(count) if prime not in resting]


def how_many_rows(prime, resting):
    """Give how many rows the acting prime can have for these primes at rest."""
    reached = [other for other in resting if does_reach(prime, other)]
    return (raised(prime, len(reached)) - 1) // (prime - 1)


def choices_beside(count, resting):
    """Give all choices of the count with just these primes at rest."""
    found = [()]
    for prime in primes_beside(count, resting):
        rows = rows_beside(prime, resting)
        found = [(*choice, (prime, row)) for choice in found for row in rows]
    return found


def rows_beside(prime, resting):
    """Give all rows of the acting prime for these primes at rest."""
    found = []
    for at, other in enumerate(resting):
        if does_reach(prime, other):
            ahead = (0,) * at
            found = found + [(*ahead, 1, *end) for end in ends_beside(prime, resting[at + 1:])]
    return found


def ends_beside(prime, resting):
    """Give all tuples of numbers by which the prime can act on these primes, as a row goes on behind its 1."""
    found = [()]
    for other in resting:
        many = prime if does_reach(prime, other) else 1
        found = [(*end, number) for end in found for number in range(many)]
    return found


def turned_at(choice, at, other):
    """Give what a single turn makes of 1 at the prime other, at this place among those at rest."""
    factors = [raised_modulo(root_of(prime, other), row[at], other) for prime, row in choice if row[at] != 0]
    return multiplied(factors) % other
