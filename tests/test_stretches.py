"""How many groups there are, number by number: [60], [63]."""

import unittest

from forcedtables.stretches import groups_between, numbers_with
from tests.choicesamples import is_real_free, plain_many
from tests.samples import PRIME_TABLE, any_values, is_real, outcome, plain_count, refused, written


def plain_pairs(low, high):
    """The pairs of the numbers from low on, below high, and how many groups, by (F5)."""
    counts = [(number, plain_count(number)) for number in range(low, high)]
    return tuple((number, plain_many(count)) for number, count in counts if is_real_free(count))


class Stretches(unittest.TestCase):
    def test_from_one_on(self):
        for low in range(1, 2001, 200):
            right = plain_pairs(low, low + 200)
            self.assertEqual(written(groups_between(low, low + 200)), written(right))
            self.assertEqual(written(groups_between(high=low + 200, low=low)), written(right))

    def test_edges(self):
        for low, high in ((1, 1), (1, 2), (2, 3), (4, 5), (8, 9), (9999, 10000), (10000, 10000), (9800, 10000),
                          (9900, 10000), (30, 31), (30, 30), (5000, 5200)):
            self.assertEqual(written(groups_between(low, high)), written(plain_pairs(low, high)))

    def test_known_ones(self):
        self.assertEqual(groups_between(1, 11), ((1, 1), (2, 1), (3, 1), (5, 1), (6, 2), (7, 1), (10, 2)))
        self.assertEqual([numbers_with(4, 1, 100), numbers_with(2, 30, 39), numbers_with(6, 40, 120)],
                         [(30, 66, 70), (34, 38), (42, 78, 110, 114)])

    def test_with_so_many(self):
        for low, high in ((1, 201), (201, 401), (9850, 10000), (1000, 1111), (5, 5), (210, 211)):
            for many in [*range(1, 20), 10 ** 40]:
                right = tuple(number for number, groups in plain_pairs(low, high) if groups == many)
                self.assertEqual(written(numbers_with(many, low, high)), written(right))
                self.assertEqual(numbers_with(high=high, low=low, many=many), right)

    def test_primes_and_products_of_two(self):
        for number, groups in groups_between(1, 201) + groups_between(7000, 7200):
            count = plain_count(number)
            if number in PRIME_TABLE:
                self.assertEqual(groups, 1)
            elif len(count) == 2:
                self.assertEqual(groups, 2 if count[1][0] % count[0][0] == 1 else 1)


class Refused(unittest.TestCase):
    def test_any_values(self):
        for thing in any_values():
            good = is_real(thing) and thing >= 1
            if not good:
                self.assertEqual(outcome(groups_between, thing, thing), refused("low"))
                self.assertEqual(outcome(groups_between, thing, 7), refused("low"))
                self.assertEqual(outcome(numbers_with, thing, thing, thing), refused("many"))
                self.assertEqual(outcome(numbers_with, 2, thing, thing), refused("low"))
            if not is_real(thing) or not 5 <= thing <= 205:
                self.assertEqual(outcome(groups_between, 5, thing), refused("high"))
                self.assertEqual(outcome(numbers_with, 2, 5, thing), refused("high"))
                self.assertEqual(outcome(numbers_with, True, 5, thing), refused("many"))

    def test_bounds(self):
        for low, high in ((1, 202), (1, 0), (2, 1), (5, 4), (9999, 10001), (10000, 10001), (9900, 10001), (10001, 10001),
                          (20000, 20000), (10 ** 40, 10 ** 40), (1, True), (9801, 10002), (1, -1)):
            self.assertEqual(outcome(groups_between, low, high), refused("high"), (low, high))
            self.assertEqual(outcome(numbers_with, 1, low, high), refused("high"))
        for low in (0, -1, True, None, "1", (1,), [1]):
            self.assertEqual(outcome(groups_between, low, 0), refused("low"))
            self.assertEqual(outcome(numbers_with, 0, low, 0), refused("many"))
