"""Parts of counts: [3], [15], [16]."""

import unittest
from math import gcd

from forcedtables.countparts import (count_of, how_many_divisors, is_square_free, power_of, primes_of, units_of,
                                     value_of)
from tests.samples import (EVERY_PRIME, FIFTEEN, FORTY, PRIMES, SIX, SIXTY_DIGITS, THIRTY, any_values, is_real,
                           outcome, plain_count, plain_value, refused, some_counts)

COUNTS = some_counts() + [EVERY_PRIME]
SMALL = [(number, plain_count(number)) for number in range(1, 301) if plain_count(number) is not None]


class OneCount(unittest.TestCase):
    def test_the_count_without_a_prime(self):
        self.assertEqual([value_of(()), primes_of(()), power_of((), 2), is_square_free(()), how_many_divisors(()),
                          units_of(())], [1, (), 0, True, 1, 1])

    def test_counts_of_one_prime(self):
        for prime in (2, 3, 97, 9973):
            for power in range(1, 7):
                count = ((prime, power),)
                self.assertEqual([value_of(count), primes_of(count), power_of(count, prime), how_many_divisors(count)],
                                 [prime ** power, (prime,), power, power + 1])
                self.assertEqual(units_of(count), prime ** power - prime ** (power - 1))
                self.assertIs(is_square_free(count), power == 1)

    def test_all_small_values(self):
        for number, count in SMALL:
            self.assertEqual(value_of(count), number)
            self.assertEqual(primes_of(count), tuple(p for p in PRIMES[:70] if number % p == 0))
            self.assertEqual(how_many_divisors(count), sum(number % k == 0 for k in range(1, number + 1)))
            self.assertEqual(units_of(count), sum(gcd(k, number) == 1 for k in range(1, number + 1)))
            self.assertIs(is_square_free(count), all(number % (p * p) for p in PRIMES[:10]))

    def test_many_counts(self):
        for count in COUNTS:
            self.assertEqual(value_of(count), plain_value(count))
            self.assertEqual(primes_of(count), tuple(pair[0] for pair in count))
            self.assertIs(type(primes_of(count)), tuple)
            self.assertIs(is_square_free(count), {pair[1] for pair in count} <= {1})

    def test_powers(self):
        for count in COUNTS:
            powers = dict(count)
            for prime in (2, 3, 5, 7, 9967, 9973):
                self.assertEqual(power_of(count, prime), powers.get(prime, 0))

    def test_only_a_prime_has_a_power(self):
        for thing in (1, 4, 0, -2, 10007, True, False, None, "2", (2,), [2], SIXTY_DIGITS):
            self.assertEqual(outcome(power_of, FORTY, thing), refused("prime"))
            self.assertEqual(outcome(power_of, [], thing), refused("count"))


class CountOf(unittest.TestCase):
    def test_small_numbers(self):
        for number in range(1, 3000):
            self.assertEqual(count_of(number), plain_count(number), number)

    def test_one(self):
        self.assertEqual(count_of(1), ())
        self.assertIs(type(count_of(1)), tuple)

    def test_powers_above_six(self):
        for prime in (2, 3, 5, 97, 9973):
            self.assertEqual(count_of(prime ** 6), ((prime, 6),))
            for power in (7, 8, 12, 14):
                self.assertIsNone(count_of(prime ** power))
            for other in (2, 101, 9967):
                self.assertIsNone(count_of(prime ** 7 * other))

    def test_primes_that_are_too_great(self):
        for prime in (10007, 10009, 99991, 10 ** 9 + 7, 2 ** 127 - 1):
            for factor in (1, 2, 9973, 10007, 30, 2 ** 6):
                self.assertIsNone(count_of(prime * factor))

    def test_great_primes(self):
        self.assertEqual(count_of(9973), ((9973, 1),))
        self.assertEqual(count_of(9967 * 9973), ((9967, 1), (9973, 1)))
        self.assertEqual(count_of(2 * 9973 ** 2), ((2, 1), (9973, 2)))

    def test_great_numbers(self):
        for number in (10 ** 59, SIXTY_DIGITS, 10 ** 60 - 1, 6 ** 70, 2 ** 199 - 1, 2 ** 199):
            self.assertEqual(count_of(number), plain_count(number))
        great = tuple((prime, 1) for prime in PRIMES[-15:])
        self.assertEqual(len(str(plain_value(great))), 60)
        self.assertEqual(count_of(plain_value(great)), great)
        self.assertIsNone(count_of(plain_value(great) + 2))

    def test_what_is_no_number_from_one_on(self):
        for thing in (0, -1, -6, -SIXTY_DIGITS, True, False, None, "6", "", (6,), [6], ()):
            self.assertEqual(outcome(count_of, thing), refused("number"))
        for thing in any_values():
            named = outcome(count_of, thing) == refused("number")
            self.assertIs(named, not (is_real(thing) and thing >= 1))


class Consequences(unittest.TestCase):
    def test_count_of_takes_value_of_back(self):
        for count in COUNTS:
            self.assertEqual(count_of(value_of(count)), count)

    def test_the_value_is_one_exactly_if_there_is_no_prime(self):
        for count in COUNTS:
            self.assertIs(value_of(count) == 1, count == ())

    def test_units_are_a_product_over_all_pairs(self):
        for count in COUNTS:
            many = 1
            for prime, power in count:
                many *= (prime - 1) * prime ** (power - 1)
            self.assertEqual(units_of(count), many)

    def test_divisors_of_square_free_counts(self):
        for count in COUNTS + [SIX, FIFTEEN, THIRTY, FORTY]:
            many = how_many_divisors(count)
            self.assertIs(is_square_free(count), many == 2 ** len(count))
