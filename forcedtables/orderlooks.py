"""The orders of the elements of a choice's group, and what commutes with all of them."""

from forcedtables.choicechecker import need_choice
from forcedtables.choices import at_rest, multiplied
from forcedtables.countparts import primes_of, value_of
from forcedtables.errors import NotUsable
from forcedtables.kinds import is_positive


def orders_in(count, choice):
    """Return the pairs (order, how many elements have it) of the choice's group, ascending."""
    need_choice(count, choice)
    orders = [1]
    for prime in primes_of(count):
        orders = orders + [order * prime for order in orders]
    resting = at_rest(count, choice)
    pairs = [(order, many_with(choice, resting, order)) for order in sorted(orders)]
    return tuple([(order, many) for order, many in pairs if many > 0])


def many_of_order(count, choice, order):
    """Return how many elements of the choice's group have this order."""
    need_choice(count, choice)
    if not is_positive(order):
        raise NotUsable("order", -1)
    if value_of(count) % order != 0:
        return 0
    return many_with(choice, at_rest(count, choice), order)


def central_in(count, choice):
    """Return how many elements of the choice's group commute with all elements."""
    resting = at_rest(count, choice)
    return multiplied([prime for at, prime in enumerate(resting) if not is_moved(choice, at)])


def many_with(choice, resting, order):
    """Give how many elements have this order, a divisor of the value, of a choice with these primes at rest."""
    turning = [(prime, row) for prime, row in choice if order % prime == 0]
    many = multiplied([prime - 1 for prime, row in turning])
    for at, prime in enumerate(resting):
        many = many * many_at(prime, is_moved(turning, at), order % prime == 0)
    return many


def many_at(prime, moved, divides):
    """Give how many numbers below a prime at rest an element can have, whose turns move it or do not.

    What is moved comes back to 0 behind a round of turns, whatever it is, and has no part in the order.
    """
    if moved:
        return 0 if divides else prime
    return prime - 1 if divides else 1


def is_moved(pairs, at):
    """Tell whether one of these pairs of a choice acts on the prime at this place among those at rest."""
    return any([row[at] != 0 for prime, row in pairs])
