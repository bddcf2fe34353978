"""Choices and their groups: [7], [50] to [52]."""

import unittest
from math import prod

from forcedtables.choicechecker import lets_choice
from forcedtables.choices import at_rest, choices_of, group_of, how_many_groups, root_of
from forcedtables.forced import all_cyclic
from forcedtables.judging import does_commute
from forcedtables.rulechecker import lets_rule
from tests.choicesamples import (FORTYTWO, GREAT_FREE, SIXES, SMALL_FREE, THREES, free, is_real_free, plain_choice_fault,
                                 plain_choices, plain_group, plain_many, plain_root, rest_of, some_choices)
from tests.samples import (FIFTEEN, FORTY, PRIMES, SIX, THIRTY, any_values, is_real_prime, outcome, plain_value, refused,
                           written)


class Roots(unittest.TestCase):
    def test_all_of_small_primes(self):
        for prime in PRIMES[:60]:
            for other in PRIMES[:60]:
                if (other - 1) % prime == 0:
                    self.assertEqual(written(root_of(prime, other)), hex(plain_root(prime, other)))
                else:
                    self.assertEqual(outcome(root_of, prime, other), refused("other"))

    def test_great_primes(self):
        for prime, other in ((2, 9973), (3, 9973), (277, 9973), (4919, 9839), (4943, 9887), (2, 3), (5, 9941), (7, 9941),
                             (71, 9941), (11, 9901)):
            self.assertEqual(written(root_of(prime, other)), hex(plain_root(prime, other)))

    def test_any_values(self):
        for thing in any_values():
            if not is_real_prime(thing):
                self.assertEqual(outcome(root_of, thing, thing), refused("prime"))
                self.assertEqual(outcome(root_of, thing, 7), refused("prime"))
                self.assertEqual(outcome(root_of, 3, thing), refused("other"))
        self.assertEqual([root_of(3, 7), root_of(other=7, prime=3), root_of(5, 11)], [2, 2, 3])

    def test_what_does_not_divide(self):
        for prime, other in ((3, 5), (7, 3), (2, 2), (5, 5), (3, 2), (9973, 9973), (4919, 9973)):
            self.assertEqual(outcome(root_of, prime, other), refused("other"))


class AtRest(unittest.TestCase):
    def test_all(self):
        for count in SMALL_FREE + GREAT_FREE:
            for choice in some_choices(count):
                right = tuple(rest_of(count, choice))
                self.assertEqual(written(at_rest(count, choice)), written(right))
                self.assertEqual(at_rest(choice=choice, count=count), right)
                # Each acting prime is below some prime at rest.
                self.assertTrue(all(prime < right[-1] for prime, _ in choice))


class HowMany(unittest.TestCase):
    def test_small_counts_by_all_rows(self):
        for count in SMALL_FREE:
            self.assertEqual(written(how_many_groups(count)), hex(len(plain_choices(count))), count)

    def test_by_the_sum(self):
        for count in SMALL_FREE + GREAT_FREE + [free(*PRIMES[at:at + 8]) for at in range(0, 1200, 97)]:
            self.assertEqual(written(how_many_groups(count)), hex(plain_many(count)), count)

    def test_known_ones(self):
        # How many groups so many elements have, alike ones counted once.
        for number, many in ((1, 1), (2, 1), (6, 2), (10, 2), (15, 1), (21, 2), (30, 4), (42, 6), (66, 4), (70, 4),
                             (78, 6), (105, 2), (110, 6), (114, 6), (130, 4), (210, 12), (273, 5), (330, 12)):
            count = free(*[prime for prime in PRIMES[:20] if number % prime == 0])
            self.assertEqual([plain_value(count), how_many_groups(count)], [number, many])

    def test_however_many(self):
        self.assertEqual(how_many_groups(free(2, 5, 11, 31, 41, 61, 71, 101)), 250112)
        eleven = free(11, 23, 67, 89, 199, 331, 353, 397)
        self.assertEqual([how_many_groups(eleven), how_many_groups(count=eleven)], [plain_many(eleven)] * 2)
        self.assertGreater(how_many_groups(eleven), 10 ** 6)

    def test_one_exactly_if_each_group_is_cyclic(self):
        for count in SMALL_FREE + GREAT_FREE:
            self.assertIs(how_many_groups(count) == 1, all_cyclic(count))

    def test_a_prime_that_neither_acts_nor_is_acted_on(self):
        for count in SMALL_FREE[:80]:
            for prime in PRIMES[:40]:
                if all(prime != own and (own - 1) % prime and (prime - 1) % own for own, _ in count):
                    more = tuple(sorted([*count, (prime, 1)]))
                    self.assertEqual(how_many_groups(more), how_many_groups(count))


class All(unittest.TestCase):
    def test_small_counts(self):
        for count in SMALL_FREE:
            self.assertEqual(written(choices_of(count)), written(plain_choices(count)), count)

    def test_greater_counts_with_at_most_two_hundred(self):
        greater = [THREES, SIXES, FORTYTWO, free(2, 3, 5, 7, 11), free(3, 7, 13, 31), free(2, 3, 7, 43, 1801),
                   free(191, 383, 2293), *GREAT_FREE]
        for count in [count for count in greater if plain_many(count) <= 200]:
            found = choices_of(count)
            self.assertEqual(len(found), plain_many(count), count)
            self.assertEqual(list(found), sorted(set(found)))
            for choice in found:
                self.assertIsNone(plain_choice_fault(count, choice))
                self.assertEqual(lets_choice(count, choice), len(choice))

    def test_a_great_prime_that_acts(self):
        self.assertEqual(choices_of(count=free(4919, 9839)), ((), ((4919, (1,)),)))
        found = choices_of(free(101, 607, 1213))
        self.assertEqual([len(found), found[2], found[-1]],
                         [plain_many(free(101, 607, 1213)), ((101, (1, 0)),), ((101, (1, 100)),)])

    def test_unlike_choices_have_unlike_groups(self):
        for count in SMALL_FREE:
            groups = [group_of(count, choice) for choice in choices_of(count)]
            self.assertEqual(len(set(groups)), len(groups))


class Groups(unittest.TestCase):
    def test_of_small_counts(self):
        for count in SMALL_FREE:
            for choice in plain_choices(count):
                right = plain_group(count, choice)
                self.assertEqual(written(group_of(count, choice)), written(right), (count, choice))
                self.assertEqual(group_of(choice=choice, count=count), right)
                self.assertEqual(lets_rule(right), plain_value(count))
                self.assertIs(does_commute(right), choice == ())

    def test_of_great_counts(self):
        for count in GREAT_FREE:
            for choice in some_choices(count):
                self.assertEqual(written(group_of(count, choice)), written(plain_group(count, choice)), (count, choice))

    def test_nothing_acts(self):
        for count in SMALL_FREE + GREAT_FREE:
            value = prod(prime for prime, _ in count)
            self.assertEqual(group_of(count, ()), (("act", value, 1, 1 % value),))


class Refused(unittest.TestCase):
    def test_counts(self):
        for thing in [*any_values(), FORTY, ((3, 1), (7, 2))]:
            if not is_real_free(thing):
                for call in (how_many_groups, choices_of):
                    self.assertEqual(outcome(call, thing), refused("count"))
                for call in (at_rest, group_of):
                    self.assertEqual(outcome(call, thing, ()), refused("count"))
                    self.assertEqual(outcome(call, thing, thing), refused("count"))

    def test_choices(self):
        for thing in [*any_values(), ((2, (0,)),), ((2, (1, 0)),), ((3, (1,)),), ((2, [1]),), [(2, (1,))],
                      ((2, (True,)),), ((2, (1,)), (2, (1,)))]:
            for count in (SIX, FIFTEEN, ()):
                if plain_choice_fault(count, thing) is not None:
                    for call in (at_rest, group_of):
                        self.assertEqual(outcome(call, count, thing), refused("choice"))

    def test_what_is_handed_in_stays(self):
        for count, choice in (([[2, 1]], []), (SIX, [[2, [1]]]), (SIX, ([2, [1]],))):
            before = written([count, choice])
            for call in (at_rest, group_of):
                outcome(call, count, choice)
            outcome(choices_of, count)
            outcome(how_many_groups, count)
            self.assertEqual(written([count, choice]), before)
        self.assertEqual(at_rest(THIRTY, ((2, (1, 1)),)), (3, 5))
