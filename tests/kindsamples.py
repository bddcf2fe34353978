"""Counts, rules and plain ways to tell of which kinds groups are, for the tests."""

from itertools import combinations, product
from math import gcd

from tests.samples import (FOUR, MIXED, PRIMES, S3, SMALL_RULES, all_of, is_real, is_real_prime, plain_count,
                           plain_together, written)

KINDS = ("cyclic", "commute", "split")
EIGHT, TWELVE, FORTYFIVE = ((2, 3),), ((2, 2), (3, 1)), ((3, 2), (5, 1))
FOURFOLD, KNOT, DIHEDRAL = (("ring", 2), ("ring", 2)), (("knot", 2),), S3

# All counts of values up to four hundred, and great ones: near a fault by one power, squares, cubes, eight primes.
SMALL_COUNTS = [plain_count(number) for number in range(1, 400) if plain_count(number) is not None]
GREAT_COUNTS = [
    ((9973, 1),), ((9973, 2),), ((9973, 3),), ((9973, 6),), ((9967, 1), (9973, 1)), ((9967, 2), (9973, 2)),
    ((2, 1), (9973, 1)), ((3, 2), (9973, 1)), ((2, 6), (3, 6), (5, 6), (7, 6)), ((2, 3), (7, 1)), ((2, 2), (7, 1)),
    ((3, 3), (13, 1)), ((3, 2), (13, 1)), ((5, 3), (31, 1)), ((5, 2), (31, 1)), ((2, 4), (5, 1)), ((2, 5), (31, 1)),
    ((2, 4), (31, 1)), ((7, 6), (43, 1)), ((7, 1), (43, 1)), ((13, 6), (61, 1)), ((13, 2), (61, 1)),
    ((7, 6), (6599, 6)), ((97, 2),), ((13, 1), (3761, 6)), ((3, 1), (9973, 1)), ((277, 1), (9973, 6)),
    tuple((prime, 1) for prime in PRIMES[-8:]), tuple((prime, 1) for prime in PRIMES[:8]),
    tuple((prime, 2) for prime in PRIMES[10:18]), ((3, 1), (5, 1), (17, 1), (257, 1)), ((5, 2), (7, 2)),
    ((3, 2), (5, 2), (17, 2)), ((5, 1), (7, 1), (13, 1), (19, 1), (37, 1)), ((211, 1), (5923, 6)),
    ((277, 1), (9973, 1)),
]
COUNTS = SMALL_COUNTS + GREAT_COUNTS

# Rules of few elements, so that their kinds are known by trying all of them.
KIND_RULES = [*SMALL_RULES, (("act", 5, 2, 1), ("ring", 7)), (("ring", 4), ("power", 2, 1)), (("ring", 4), ("ring", 9)),
              (("act", 4, 9, 1), ("ring", 1)), (("act", 2, 9, 1), ("ring", 3)), (("act", 1, 6, 0), ("ring", 5)),
              (("power", 5, 1), ("power", 3, 1)), (("power", 5, 2),), (("ring", 3), S3[0]), (("ring", 15), ("ring", 4)),
              (("act", 15, 2, 1), ("ring", 2)), (("power", 3, 2), ("ring", 5)), (FOUR, ("ring", 5)), (("knot", 3),),
              (("act", 21, 2, 13),), (("act", 15, 4, 2),), (("ring", 1), ("ring", 1)), (("ring", 2), ("knot", 2))]
LARGE_RULES = [MIXED, (("power", 9973, 6), ("ring", 9973)), (("ring", 9973), ("ring", 9973)), (("knot", 9973),),
               (("turn", 9973, ((9972,),), 2),), (("act", 9973, 9972, 2), ("ring", 9967)), (("ring", 9973 * 9967),),
               (("ring", 9973 * 9967), ("act", 9967, 9949, 1)), (("act", 91, 3, 16), ("ring", 10)),
               (("ring", 2 ** 6 * 3 ** 6), ("ring", 5 ** 6 * 7 ** 6)), (("knot", 7), FOUR, ("ring", 5), ("ring", 11))]


def plain_acts(count):
    """Whether q divides p ** i - 1 for two primes p, q of the count and an i up to the power of p."""
    return any((p ** i - 1) % q == 0 for (p, power), (q, _) in product(count, count) if p != q
               for i in range(1, power + 1))


def plain_forces(count, kind):
    """Whether each group of the count's value is of the kind, by [8]."""
    if kind == "cyclic":
        return all(power == 1 for _, power in count) and not any((p - 1) % q == 0 for p, _ in count for q, _ in count)
    if kind == "commute":
        return all(power <= 2 for _, power in count) and not plain_acts(count)
    return not plain_acts(count)


def plain_order(rule, element):
    """How often the element is put together to give one."""
    one, here, order = all_of(rule)[0], element, 1
    while here != one:
        here, order = plain_together(rule, here, element), order + 1
    return order


def plain_kinds(rule):
    """The kinds of the group of a rule of few elements, by trying all of them."""
    found = all_of(rule)
    orders = {element: plain_order(rule, element) for element in found}
    apart = [(one, two) for one, two in combinations(found, 2)
             if plain_together(rule, one, two) != plain_together(rule, two, one)]
    holds = {"cyclic": len(found) in orders.values(), "commute": not apart,
             "split": all(gcd(orders[one], orders[two]) > 1 for one, two in apart)}
    return tuple(kind for kind in KINDS if holds[kind])


def is_part(rule, thing):
    """Whether any value is an element of a rule of few elements."""
    return written(thing) in [written(part) for part in all_of(rule)]


def plain_power(rule, element, times):
    """An element of a rule of few elements, so many times put together."""
    result = all_of(rule)[0]
    for _ in range(times % len(all_of(rule))):
        result = plain_together(rule, result, element)
    return result


def plain_shown_fault(rule, kind, thing):
    """Word and place of what is wrong with what shows that a rule of few elements is not of the kind, by [43]."""
    forms = {"cyclic": {"twins": 4, "apart": 3}, "commute": {"apart": 3}, "split": {"torn": 5}}[kind]
    if not (type(thing) is tuple and thing and type(thing[0]) is str and forms.get(thing[0]) == len(thing)):
        return ("shape", -1)
    word, a, b, *more = thing
    for name, part in (("first", a), ("second", b)):
        if not is_part(rule, part):
            return (name, -1)
    one = all_of(rule)[0]
    if word == "twins":
        if not is_real_prime(more[0]):
            return ("prime", -1)
        more = more * 2
    if word == "torn":
        for at, number in enumerate(more):
            if not is_real(number) or number < 1:
                return ("number", at)
        if gcd(*more) > 1:
            return ("common", gcd(*more))
    for at, number in enumerate(more):
        if plain_power(rule, (a, b)[at], number) != one:
            return ("power", at)
    if word == "twins":
        powers = [plain_power(rule, a, times) for times in range(len(all_of(rule)))]
        return ("one", -1) if a == one else ("among", powers.index(b)) if b in powers else None
    return ("apart", -1) if plain_together(rule, a, b) == plain_together(rule, b, a) else None
