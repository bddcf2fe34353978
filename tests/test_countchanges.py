"""Changes of counts: [17], [18]."""

import unittest
from itertools import product
from math import gcd, lcm

from forcedtables.countchanges import (common, does_divide, joined, lifted, lowered, over, square_free_of, times,
                                       without_prime)
from forcedtables.countparts import power_of, units_of, value_of
from tests.samples import (EVERY_PRIME, FIFTEEN, FORTY, PRIMES, SIX, any_values, is_real_prime, outcome, plain_count,
                           plain_value, refused, some_counts, written)

COUNTS = some_counts()
PAIRS = list(product(COUNTS[::2], COUNTS[::3])) + [(count, count) for count in COUNTS]
EIGHT = tuple((prime, 6) for prime in PRIMES[:8])


class TwoCounts(unittest.TestCase):
    def test_many_pairs_of_counts(self):
        for count, other in PAIRS:
            mine, theirs = plain_value(count), plain_value(other)
            product_count = plain_count(mine * theirs)
            self.assertEqual(outcome(times, count, other),
                             refused("other") if product_count is None else written(product_count))
            self.assertEqual(outcome(over, count, other),
                             refused("other") if mine % theirs else written(plain_count(mine // theirs)))
            self.assertEqual(written(common(count, other)), written(plain_count(gcd(mine, theirs))))
            self.assertEqual(written(joined(count, other)), written(plain_count(lcm(mine, theirs))))
            self.assertIs(does_divide(count, other), theirs % mine == 0)

    def test_with_the_count_without_a_prime(self):
        for count in COUNTS + [EVERY_PRIME]:
            for result in (times(count, ()), times((), count), over(count, ()), joined(count, ()), joined((), count)):
                self.assertEqual(written(result), written(count))
            self.assertEqual([common(count, ()), common((), count), over(count, count)], [(), (), ()])
            self.assertIs(does_divide((), count), True)
            self.assertIs(does_divide(count, ()), count == ())

    def test_every_prime(self):
        flat = tuple((prime, 1) for prime in PRIMES)
        self.assertEqual(over(EVERY_PRIME, flat), tuple((prime, 5) for prime in PRIMES))
        self.assertEqual(times(flat, flat), tuple((prime, 2) for prime in PRIMES))
        self.assertEqual(outcome(times, EVERY_PRIME, flat), refused("other"))
        self.assertEqual(common(EVERY_PRIME, flat), flat)
        self.assertEqual(joined(EVERY_PRIME, flat), EVERY_PRIME)

    def test_powers_above_six(self):
        for mine, theirs in product(range(1, 7), repeat=2):
            right = written(((3, mine + theirs),)) if mine + theirs <= 6 else refused("other")
            self.assertEqual(outcome(times, ((3, mine),), ((3, theirs),)), right)
        self.assertEqual(outcome(times, ((2, 1), (9973, 6)), ((2, 1), (9973, 1))), refused("other"))

    def test_what_does_not_divide(self):
        for count, other in (((), SIX), (SIX, FIFTEEN), (FORTY, ((2, 4),)), (FORTY, ((5, 2),)), (FORTY, ((7, 1),)),
                             (FORTY, ((2, 3), (3, 1))), (((2, 1),), SIX)):
            self.assertEqual(outcome(over, count, other), refused("other"))

    def test_the_order_of_errors(self):
        self.assertEqual(outcome(times, ((2, 7),), ((4, 1),)), refused("count"))
        self.assertEqual(outcome(over, [], []), refused("count"))
        self.assertEqual(outcome(over, SIX, [(2, 1)]), refused("other"))


class OnePrime(unittest.TestCase):
    def test_lifted(self):
        for count, prime in product(COUNTS, (2, 3, 5, 7, 101, 9973)):
            value = plain_value(count) * prime
            changed = plain_count(value)
            right = refused("prime") if changed is None else written(changed)
            self.assertEqual(outcome(lifted, count, prime), right)

    def test_lowered(self):
        for count, prime in product(COUNTS, (2, 3, 5, 7, 101, 9973)):
            value = plain_value(count)
            right = refused("prime") if value % prime else written(plain_count(value // prime))
            self.assertEqual(outcome(lowered, count, prime), right)

    def test_without_prime(self):
        for count, prime in product(COUNTS, (2, 3, 5, 7, 101, 9973)):
            others = tuple(pair for pair in count if pair[0] != prime)
            right = refused("prime") if others == count else written(others)
            self.assertEqual(outcome(without_prime, count, prime), right)

    def test_each_prime_of_eight(self):
        for at, (prime, _) in enumerate(EIGHT):
            self.assertEqual(outcome(lifted, EIGHT, prime), refused("prime"))
            self.assertEqual(lowered(EIGHT, prime), EIGHT[:at] + ((prime, 5),) + EIGHT[at + 1:])
            self.assertEqual(without_prime(EIGHT, prime), EIGHT[:at] + EIGHT[at + 1:])
        self.assertEqual(lifted(EIGHT, 23), EIGHT + ((23, 1),))
        self.assertEqual(lifted(((3, 2), (7, 1)), 5), ((3, 2), (5, 1), (7, 1)))
        self.assertEqual(lifted(((3, 2), (7, 1)), 2), ((2, 1), (3, 2), (7, 1)))

    def test_at_the_edges_of_powers(self):
        self.assertEqual(lifted(((5, 5),), 5), ((5, 6),))
        self.assertEqual(outcome(lifted, ((5, 6),), 5), refused("prime"))
        self.assertEqual(lifted((), 9973), ((9973, 1),))
        self.assertEqual([lowered(((5, 1),), 5), lowered(((5, 6),), 5)], [(), ((5, 5),)])
        self.assertEqual([without_prime(((5, 1),), 5), without_prime(((5, 6),), 5)], [(), ()])

    def test_what_is_no_prime(self):
        for thing in any_values():
            for call in (lifted, lowered, without_prime):
                if not is_real_prime(thing):
                    self.assertEqual(outcome(call, FORTY, thing), refused("prime"))
                    self.assertEqual(outcome(call, [], thing), refused("count"))

    def test_square_free_of(self):
        for count in COUNTS + [EVERY_PRIME]:
            self.assertEqual(written(square_free_of(count)), written(tuple((prime, 1) for prime, _ in count)))


class Consequences(unittest.TestCase):
    def test_over_takes_times_back(self):
        for count, other in PAIRS:
            if all(power_of(count, prime) + power <= 6 for prime, power in other):
                self.assertEqual(over(times(count, other), other), count)

    def test_lowered_takes_lifted_back(self):
        for count, prime in product(COUNTS, (2, 3, 7, 9973)):
            if power_of(count, prime) < 6:
                self.assertEqual(lowered(lifted(count, prime), prime), count)

    def test_common_and_joined_have_the_product_of_both(self):
        for count, other in PAIRS:
            self.assertEqual(value_of(common(count, other)) * value_of(joined(count, other)),
                             value_of(count) * value_of(other))

    def test_does_divide_by_common_and_by_joined(self):
        for count, other in PAIRS:
            self.assertIs(does_divide(count, other), common(count, other) == count)
            self.assertIs(does_divide(count, other), joined(count, other) == other)

    def test_units_of_products(self):
        for count, other in PAIRS:
            if all(power_of(count, prime) + power <= 6 for prime, power in other):
                alone = units_of(times(count, other)) == units_of(count) * units_of(other)
                self.assertIs(alone, common(count, other) == ())
