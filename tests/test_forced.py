"""What a count forces: [8] (F1) to (F3), [9], [35] to [38]."""

import unittest
from itertools import product

from forcedtables.forced import (acts_at, all_commute, all_cyclic, all_split, forced_between, kinds_forced,
                                 reasons_against)
from tests.kindsamples import COUNTS, EIGHT, FORTYFIVE, KINDS, SMALL_COUNTS, TWELVE, plain_forces
from tests.samples import (FIFTEEN, PRIMES, SIX, THIRTY, any_values, is_real, outcome, plain_count, plain_value,
                           refused, written)

TELLERS = {"cyclic": all_cyclic, "commute": all_commute, "split": all_split}

# Of each group of so many elements it is known that it is of the kind: these numbers below one hundred, and no others.
KNOWN = {
    "cyclic": """1 2 3 5 7 11 13 15 17 19 23 29 31 33 35 37 41 43 47 51 53 59 61 65 67 69 71 73 77 79 83 85 87 89 91
                 95 97""",
    "commute": """1 2 3 4 5 7 9 11 13 15 17 19 23 25 29 31 33 35 37 41 43 45 47 49 51 53 59 61 65 67 69 71 73 77 79 83
                  85 87 89 91 95 97 99""",
    "split": """1 2 3 4 5 7 8 9 11 13 15 16 17 19 23 25 27 29 31 32 33 35 37 41 43 45 47 49 51 53 59 61 64 65 67 69 71
                73 77 79 81 83 85 87 89 91 95 97 99""",
}


def plain_reasons(count, kind):
    """The reasons why not each group of the count's value is of the kind, by [36]."""
    found = []
    for (prime, _), (other, power) in product(count, count):
        acting = [i for i in range(1, power + 1) if (other ** i - 1) % prime == 0 and prime != other]
        found += [("act", prime, other, i) for i in acting[:1]]
    most = {"cyclic": 1, "commute": 2, "split": 6}[kind]
    found += [("power", prime, power) for prime, power in count if power > most]
    return tuple(sorted(found))


class Tellers(unittest.TestCase):
    def test_by_the_conditions(self):
        for count in COUNTS:
            for kind in KINDS:
                self.assertIs(TELLERS[kind](count), plain_forces(count, kind), (count, kind))
            right = tuple(kind for kind in KINDS if plain_forces(count, kind))
            self.assertEqual(written(kinds_forced(count)), written(right))

    def test_what_is_known(self):
        for kind, numbers in KNOWN.items():
            right = [int(number) for number in numbers.split()]
            found = [number for number in range(1, 100) if TELLERS[kind](plain_count(number))]
            self.assertEqual(found, right, kind)

    def test_near_a_fault_by_one_power(self):
        # Each first prime divides the second one to this power less 1, and to no lesser power.
        for prime, other, least in ((13, 3, 3), (31, 2, 5), (31, 5, 3), (7, 2, 3), (5, 3, 4), (5, 2, 4), (3, 2, 2),
                                    (43, 7, 6), (61, 13, 3), (7, 13, 2), (11, 23, 1), (7, 6599, 6)):
            for power in range(1, 7):
                count = tuple(sorted([(prime, 1), (other, power)]))
                self.assertEqual(acts_at(count, prime, other), least if power >= least else None)
                if (prime - 1) % other != 0:
                    self.assertIs(all_split(count), power < least)
                    self.assertIs(all_commute(count), power < least and power <= 2)
                    self.assertIs(all_cyclic(count), power < least and power == 1)

    def test_one_prime(self):
        for prime in PRIMES[::100] + [9973]:
            for power in range(1, 7):
                count = ((prime, power),)
                self.assertEqual([all_cyclic(count), all_commute(count), all_split(count)],
                                 [power == 1, power <= 2, True])
        self.assertEqual(kinds_forced(()), KINDS)

    def test_two_and_another_prime_force_nothing(self):
        for prime in PRIMES[1::50]:
            for power in range(1, 7):
                self.assertEqual(kinds_forced(((2, power), (prime, 1))), ())
                self.assertEqual(kinds_forced(((2, 1), (prime, power))), ())

    def test_later_kinds_and_lesser_counts(self):
        for count in COUNTS:
            found = kinds_forced(count)
            self.assertEqual(found, KINDS[len(KINDS) - len(found):])
            for at, (prime, power) in enumerate(count):
                for less in (count[:at] + count[at + 1:], count[:at] + ((prime, power - 1),) * (power > 1)
                             + count[at + 1:]):
                    self.assertLessEqual(set(found), set(kinds_forced(less)))

    def test_eight_primes(self):
        free = ((3, 1), (5, 1), (17, 1), (23, 1), (29, 1), (53, 1), (83, 1), (89, 1))
        for count in (free, tuple((prime, 1) for prime in PRIMES[-8:]), tuple((prime, 1) for prime in PRIMES[:8])):
            self.assertEqual(kinds_forced(count), tuple(kind for kind in KINDS if plain_forces(count, kind)))


class Reasons(unittest.TestCase):
    def test_all_counts(self):
        for count in COUNTS:
            for kind in KINDS:
                self.assertEqual(written(reasons_against(count, kind)), written(plain_reasons(count, kind)))

    def test_there_are_none_exactly_if_it_is_forced(self):
        for count in COUNTS:
            for kind in KINDS:
                self.assertIs(reasons_against(count, kind) == (), TELLERS[kind](count))

    def test_acts_at(self):
        for count in COUNTS:
            for (prime, _), (other, power) in product(count, count):
                if prime == other:
                    self.assertEqual(outcome(acts_at, count, prime, other), refused("other"))
                    continue
                acting = [i for i in range(1, power + 1) if other ** i % prime == 1]
                self.assertEqual(acts_at(count, prime, other), acting[0] if acting else None)

    def test_primes_of_acts_at(self):
        for thing in any_values():
            primes = is_real(thing) and thing in (2, 3, 5)
            self.assertEqual(outcome(acts_at, THIRTY, thing, 2),
                             written({3: None, 5: None}.get(thing)) if primes and thing != 2
                             else refused("other" if primes else "prime"))
            if not primes:
                self.assertEqual(outcome(acts_at, THIRTY, 2, thing), refused("other"))
                self.assertEqual(outcome(acts_at, THIRTY, thing, thing), refused("prime"))
            self.assertEqual(outcome(acts_at, [(2, 1)], thing, thing), refused("count"))
        self.assertEqual(outcome(acts_at, THIRTY, 7, 2), refused("prime"))
        self.assertEqual(outcome(acts_at, THIRTY, 2, 7), refused("other"))
        self.assertEqual(outcome(acts_at, (), 2, 3), refused("prime"))
        self.assertEqual(acts_at(other=2, prime=3, count=TWELVE), 2)


class Between(unittest.TestCase):
    def test_all_numbers(self):
        for kind in KINDS:
            found = []
            for first in range(1, 10000, 200):
                found += forced_between(first, min(first + 199, 9999), kind)
            right = []
            for number in range(1, 10000):
                count = plain_count(number)
                if count is not None and plain_forces(count, kind):
                    right.append(number)
            self.assertEqual(written(found), written(right))

    def test_both_ends_are_counted(self):
        self.assertEqual(forced_between(3, 3, "cyclic"), (3,))
        self.assertEqual(forced_between(4, 4, "cyclic"), ())
        self.assertEqual(forced_between(3, 5, "cyclic"), (3, 5))
        self.assertEqual(forced_between(9967, 9973, "cyclic"), (9967, 9969, 9973))
        self.assertEqual([forced_between(1, 1, kind) for kind in KINDS], [(1,), (1,), (1,)])
        self.assertEqual([forced_between(128, 128, "split"), forced_between(64, 64, "split")], [(), (64,)])

    def test_ends(self):
        for first, last, name in ((0, 5, "first"), (10000, 10000, "first"), (1, 0, "last"), (1, 201, "last"),
                                  (5, 205, "last"), (9999, 10000, "last"), (9900, 10000, "last"), (-1, -1, "first"),
                                  (True, 5, "first"), (1, True, "last"), (0, 0, "first"), ("1", 5, "first")):
            self.assertEqual(outcome(forced_between, first, last, "split"), refused(name), (first, last))
            self.assertEqual(outcome(forced_between, first, last, "none"), refused(name))
        for first, last in ((1, 200), (5, 204), (9999, 9999), (9800, 9999), (9999, 1), (300, 2)):
            self.assertEqual(outcome(forced_between, first, last, "none"), refused("kind"))
            self.assertTrue(outcome(forced_between, first, last, "split").startswith("tuple"))
        self.assertEqual([forced_between(8, 6, "split"), forced_between(9999, 1, "split")], [(), ()])

    def test_any_values(self):
        for thing in any_values():
            fits = is_real(thing) and 1 <= thing <= 9999
            self.assertEqual(outcome(forced_between, thing, 5, None), refused("kind" if fits else "first"))
            self.assertEqual(outcome(forced_between, 5, thing, None),
                             refused("kind" if fits and thing < 205 else "last"))

    def test_by_name(self):
        self.assertEqual(forced_between(kind="commute", last=12, first=4), (4, 5, 7, 9, 11))


class AnyValues(unittest.TestCase):
    def test_kinds(self):
        for thing in any_values():
            if thing not in KINDS:
                self.assertEqual(outcome(reasons_against, SIX, thing), refused("kind"))
                self.assertEqual(outcome(reasons_against, [SIX], thing), refused("count"))
                self.assertEqual(outcome(forced_between, 1, 2, thing), refused("kind"))
        for thing in ("Cyclic", "cyclic ", "commutes", "off", "", "splits", ("cyclic",), ["split"], True, None, 0):
            self.assertEqual(outcome(reasons_against, SIX, thing), refused("kind"))

    def test_examples_of_each_kind(self):
        self.assertEqual([kinds_forced(count) for count in (FIFTEEN, FORTYFIVE, EIGHT, SIX, TWELVE)],
                         [KINDS, KINDS[1:], KINDS[2:], (), ()])

    def test_first_counts(self):
        self.assertEqual([plain_value(count) for count in SMALL_COUNTS[:6] if all_cyclic(count)], [1, 2, 3, 5])
