"""Square-free counts, choices, rules of square-free order, and plain ways to tell what they are."""

from itertools import product
from math import gcd, prod

from forcedtables.rulechecker import is_rule, lets_rule
from tests.samples import (PRIMES, SIX, THIRTY, all_of, is_real, is_real_count, is_real_prime, plain_count,
                           plain_together)

THREES = ((3, 1), (7, 1), (13, 1))
TWENTYONE, FORTYTWO, SIXES = ((3, 1), (7, 1)), ((2, 1), (3, 1), (7, 1)), ((2, 1), (3, 1), (5, 1), (7, 1))


def free(*primes):
    """The square-free count of these primes, ascending."""
    return tuple((prime, 1) for prime in primes)


SMALL_FREE = [plain_count(number) for number in range(1, 240)
              if plain_count(number) is not None and all(power == 1 for _, power in plain_count(number))]
# Beyond small values: many that act on many, great primes, the greatest value of eight primes, and none that acts.
GREAT_FREE = [
    free(2, 3, 7, 43), free(3, 7, 13, 19), free(2, 3, 5, 7, 11, 13, 17, 19), free(*PRIMES[-8:]), free(3, 9973),
    free(2, 9967, 9973), free(4919, 9839), free(3, 5, 17, 257), free(2, 5, 11, 31, 41, 61, 71, 101),
    free(3, 7, 13, 19, 31, 37, 43, 61), free(11, 23, 47, 89), free(2, 3, 7, 9973), free(277, 9973),
    free(2, 4993, 9901, 9967), free(5, 11, 31, 9941), free(13, 53, 79, 2003, 4007, 8009),
]


def plain_root(prime, other):
    """The root of prime at other, by [7]."""
    return next(number for number in range(2, other) if pow(number, prime, other) == 1)


def rest_of(count, choice):
    """The primes at rest, by [7]."""
    acting = [pair[0] for pair in choice]
    return [prime for prime, _ in count if prime not in acting]


def plain_choices(count):
    """All choices of a count, ascending, by going through all rows."""
    primes = [prime for prime, _ in count]
    found = []
    for marks in product((False, True), repeat=len(primes)):
        acting = [prime for prime, mark in zip(primes, marks) if mark]
        rest = [prime for prime in primes if prime not in acting]
        rows = []
        for prime in acting:
            reached = [range(prime) if other % prime == 1 else (0,) for other in rest]
            rows.append([row for row in product(*reached) if next((n for n in row if n), 0) == 1])
        found += [tuple(zip(acting, chosen)) for chosen in product(*rows)]
    return tuple(sorted(found))


def plain_many(count):
    """How many choices a count has, by the sum of (F5)."""
    primes = [prime for prime, _ in count]
    total = 0
    for marks in product((0, 1), repeat=len(primes)):
        product_here = 1
        for prime, mark in zip(primes, marks):
            c = sum((q - 1) % prime == 0 for q, other in zip(primes, marks) if not other)
            product_here *= (prime ** c - 1) // (prime - 1) if mark else 1
        total += product_here
    return total


def plain_group(count, choice):
    """The group of a choice, by [7], u being found prime by prime."""
    rest = rest_of(count, choice)
    m, d, u = 1, prod(prime for prime, _ in choice), 0
    for at, q in enumerate(rest):
        here = prod(plain_root(p, q) ** row[at] for p, row in choice if row[at]) % q
        u += m * ((here - u) * pow(m, -1, q) % q)
        m *= q
    return (("act", m, d, u),)


def plain_choice_fault(count, thing):
    """Word and place of what is wrong with a choice of a square-free count, by [49] read once more, or None."""
    primes = [prime for prime, _ in count]
    if type(thing) is not tuple:
        return ("shape", -1)
    for k, pair in enumerate(thing):
        if type(pair) is not tuple or len(pair) != 2 or not is_real_prime(pair[0]) or pair[0] not in primes:
            return ("pair", k)
        if type(pair[1]) is not tuple:
            return ("pair", k)
        if k and pair[0] <= thing[k - 1][0]:
            return ("order", k)
    rest = rest_of(count, thing)
    for k, (p, row) in enumerate(thing):
        if len(row) != len(rest):
            return ("row", k)
        for j, number in enumerate(row):
            if not is_real(number) or not 0 <= number < p or (number != 0 and (rest[j] - 1) % p != 0):
                return ("number", (k, j))
        if not any(row):
            return ("nought", k)
        if [number for number in row if number][0] != 1:
            return ("first", k)
    return None


def is_real_free(thing):
    """Whether any value is a square-free count."""
    return is_real_count(thing) and all(power == 1 for _, power in thing)


def is_free_rule(thing):
    """Whether any value is a rule whose order is the value of a square-free count."""
    return is_rule(thing) and is_real_free(plain_count(lets_rule(thing)))


def choice_with(count, wanted):
    """The choice in which those of the wanted primes act that can act on others, each on as many as it can."""
    primes = [prime for prime, _ in count]
    acting = [p for p in wanted if any(q % p == 1 for q in primes if q not in wanted)]
    rest = [prime for prime in primes if prime not in acting]
    choice = []
    for p in acting:
        row = [q // p % p if q % p == 1 else 0 for q in rest]
        if not any(row):
            row = [int(q % p == 1) for q in rest]
        first = next(number for number in row if number)
        choice.append((p, tuple(number * pow(first, -1, p) % p for number in row)))
    return tuple(choice)


def some_choices(count, most=12):
    """Some choices of a count, made without going through all of them; () is one of them."""
    primes = [prime for prime, _ in count]
    found = [choice_with(count, wanted) for wanted in [[], *[[prime] for prime in primes], primes[:len(primes) // 2],
                                                       primes[::2], primes[1::2], primes[:-1]]]
    for p in primes:
        reached = [q for q in primes if q % p == 1]
        if reached:
            found.append(((p, tuple(int(q == reached[-1]) for q in primes if q != p)),))
    return sorted(set(found))[:most]


def raised_act(piece, power):
    """An act with u to this power in the place of u."""
    word, m, d, u = piece
    return (word, m, d, pow(u, power, m))


def shaped(count, choice):
    """Rules whose group is alike to that of the choice, in many forms."""
    (word, m, d, u), = plain_group(count, choice)
    rest = rest_of(count, choice)
    yield ((word, m, d, u),)
    yield (("ring", 1), (word, m, d, u), ("act", 1, 1, 0))
    for power in (2, 3, 5, 7, 11, d + 1, 2 * d - 1, d - 1):
        if gcd(power, d) == 1 and power > 0:
            yield (raised_act((word, m, d, u), power),)
    # Primes at rest on which none acts, put beside, or among those that turn.
    alone = [q for q in rest if u % q == 1 % q]
    inner = m // prod(alone)
    beside = [("ring", q) for q in alone]
    yield (*beside, (word, inner, d, u % inner))
    yield ((word, inner, d, u % inner), ("ring", prod(alone)))
    yield (("power", alone[0], 1) if alone else ("ring", 1), (word, inner, d, u % inner), ("ring", prod(alone[1:])))
    yield ((word, inner, d * prod(alone), u % inner),)
    yield (("act", 1, prod(alone[1:]), 0), (word, inner, d * prod(alone[:1]), u % inner))
    yield (("act", prod(alone[:1]), prod(alone[1:]), 1 % prod(alone[:1])), (word, inner, d, u % inner))
    # Acting primes apart from each other, where no two of them act on the same prime.
    reached = [[q for at, q in enumerate(rest) if row[at]] for p, row in choice]
    if len(sum(reached, [])) == len(set(sum(reached, []))) and choice:
        pieces = [("act", prod(qs), p, u % prod(qs)) for (p, _), qs in zip(choice, reached)]
        turns = [("turn", qs[0], ((u % qs[0],),), p) if len(qs) == 1 else piece
                 for (p, _), qs, piece in zip(choice, reached, pieces)]
        yield (*pieces, ("ring", prod(alone)))
        yield (("ring", prod(alone)), *turns[::-1])
        yield tuple(raised_act(piece, piece[2] - 1 or 1) for piece in pieces) + tuple(beside)


# Rules of square-free order with pieces of every kind that has one.
LED = [
    ((("ring", 2), ("ring", 5)), free(2, 5), ()),
    ((("ring", 5), ("act", 3, 2, 2)), THIRTY, ((2, (1, 0)),)),
    ((("turn", 7, ((4,),), 3),), TWENTYONE, ((3, (1,)),)),
    ((("turn", 7, ((2,),), 3),), TWENTYONE, ((3, (1,)),)),
    ((("act", 91, 3, 81),), THREES, ((3, (1, 2)),)),
    ((("act", 91, 3, 16),), THREES, ((3, (1, 1)),)),
    ((("act", 91, 3, 9),), THREES, ((3, (1, 2)),)),
    ((("act", 91, 3, 74),), THREES, ((3, (1, 1)),)),
    ((("act", 91, 3, 29),), THREES, ((3, (0, 1)),)),
    ((("act", 91, 3, 53),), THREES, ((3, (1, 0)),)),
    ((("act", 91, 3, 79),), THREES, ((3, (1, 0)),)),
    ((("act", 91, 3, 1),), THREES, ()),
    ((("act", 5, 6, 4),), THIRTY, ((2, (0, 1)),)),
    ((("act", 5, 6, 1),), THIRTY, ()),
    ((("act", 15, 2, 4),), THIRTY, ((2, (0, 1)),)),
    ((("act", 15, 2, 14),), THIRTY, ((2, (1, 1)),)),
    ((("act", 15, 2, 11),), THIRTY, ((2, (1, 0)),)),
    ((("turn", 3, ((2,),), 2), ("power", 5, 1)), THIRTY, ((2, (1, 0)),)),
    ((("power", 3, 1), ("turn", 5, ((4,),), 2)), THIRTY, ((2, (0, 1)),)),
    ((("ring", 1),), (), ()), ((("act", 1, 1, 0), ("ring", 1)), (), ()),
    ((("act", 1, 6, 0),), SIX, ()), ((("act", 6, 1, 1),), SIX, ()), ((("power", 9973, 1),), free(9973), ()),
    ((("act", 7, 6, 3),), FORTYTWO, ((2, (1,)), (3, (1,)))),
    ((("act", 7, 6, 5),), FORTYTWO, ((2, (1,)), (3, (1,)))),
    ((("act", 7, 6, 2),), FORTYTWO, ((3, (0, 1)),)), ((("act", 7, 6, 6),), FORTYTWO, ((2, (0, 1)),)),
    ((("act", 11, 10, 2), ("act", 7, 3, 2)), free(2, 3, 5, 7, 11), ((2, (0, 1)), (3, (1, 0)), (5, (0, 1)))),
    ((("turn", 9973, ((9972,),), 2),), free(2, 9973), ((2, (1,)),)),
    ((("turn", 7, ((4,),), 3), ("turn", 11, ((10,),), 2)), free(2, 3, 7, 11), ((2, (0, 1)), (3, (1, 0)))),
]


def plain_unlike(rule):
    """How many elements of each order a rule of few elements has, and how many commute with all."""
    parts = all_of(rule)
    one = parts[0]
    orders = {}
    for part in parts:
        here, order = part, 1
        while here != one:
            here, order = plain_together(rule, here, part), order + 1
        orders[order] = orders.get(order, 0) + 1
    central = sum(all(plain_together(rule, part, other) == plain_together(rule, other, part) for other in parts)
                  for part in parts)
    return tuple(sorted(orders.items())), central


def plain_alike(rule, other):
    """Whether two rules of few elements are alike, by trying where two elements that make all can go to."""
    mine, theirs = all_of(rule), all_of(other)
    if len(mine) != len(theirs):
        return False
    a, b = next((a, b) for a in mine for b in mine if len(made_of(rule, rule, a, b, a, b) or ()) == len(mine))
    for x in theirs:
        for y in theirs:
            image = made_of(rule, other, a, b, x, y)
            if image is not None and len(image) == len(mine) == len(set(image.values())):
                return True
    return False


def made_of(rule, other, a, b, x, y):
    """The map that takes a to x and b to y, or None if these go along unlike ways; it is a map by each step."""
    image = {all_of(rule)[0]: all_of(other)[0]}
    late = list(image)
    for here in late:
        for step, far in ((a, x), (b, y)):
            part = plain_together(rule, here, step)
            moved = plain_together(other, image[here], far)
            if part not in image:
                image[part] = moved
                late.append(part)
            elif image[part] != moved:
                return None
    return image
