"""Rules of square-free order, led to the choice to whose group theirs is alike.

Each prime of such an order stands in one piece alone, and acts, if at all, by
the turns of this piece on primes of the same piece.
"""

from forcedtables.choices import roots_of, share_of
from forcedtables.countparts import count_of, primes_of
from forcedtables.errors import NotUsable
from forcedtables.kinds import does_reach, is_free
from forcedtables.powering import raised_modulo
from forcedtables.rulechecker import is_rule, lets_rule
from forcedtables.rules import twist_of


def choice_of(rule):
    """Return the count of the rule's order and the choice of it to whose group the rule's is alike."""
    need_free_rule("rule", rule)
    count = count_of(lets_rule(rule))
    acts = acts_in(count, rule)
    acting = [prime for prime, pace, numbers in acts]
    places = [at for at, prime in enumerate(primes_of(count)) if prime not in acting]
    choice = [(prime, tuple([numbers[at] * pace % prime for at in places])) for prime, pace, numbers in acts]
    return count, tuple(choice)


def are_alike(rule, other):
    """Tell whether the groups of both rules are alike."""
    need_free_rule("rule", rule)
    need_free_rule("other", other)
    return choice_of(rule) == choice_of(other)


def need_free_rule(name, thing):
    """Raise NotUsable with the name of the parameter for what is no rule whose order is a square-free count's value."""
    # Where the order is no count's value, its count is None.
    if not is_rule(thing) or not is_free(count_of(lets_rule(thing))):
        raise NotUsable(name, -1)


def acts_in(count, rule):
    """Give (prime, pace, numbers) for each prime that acts in a rule of this order.

    A turn of the rule acts by these numbers on the primes of the count; put
    together pace times it acts by 1 on the first one on which it acts at all.
    """
    found = []
    for prime in primes_of(count):
        numbers = [number_in(rule, prime, other) for other in primes_of(count)]
        firsts = [number for number in numbers if number != 0]
        if len(firsts) > 0:
            found.append((prime, raised_modulo(firsts[0], prime - 2, prime), numbers))
    return found


def number_in(rule, prime, other):
    """Give the number by which a turn of the rule lets the prime act on the other one, 0 if it does not."""
    for piece in rule:
        below, table, many = twist_of(piece)
        if many % prime == 0 and below % other == 0 and does_reach(prime, other):
            # So often put together, the turn is what is left of it by this prime alone.
            return number_among_roots(prime, other, raised_modulo(table[0][0], share_of(prime, many), other))
    return 0


def number_among_roots(prime, other, factor):
    """Give the number to whose power the root of prime at other is this factor."""
    root = min(roots_of(prime, other))
    number = 0
    power = 1
    while power != factor:
        power = power * root % other
        number = number + 1
    return number
