"""The checker of choices: [48], [49]."""

import unittest
from itertools import product

from forcedtables.choicechecker import lets_choice
from forcedtables.kinds import is_choice
from tests.choicesamples import (FORTYTWO, GREAT_FREE, SIXES, SMALL_FREE, THREES, free, is_real_free, plain_choice_fault,
                                 plain_choices, some_choices)
from tests.samples import FIFTEEN, FORTY, SIX, THIRTY, any_values, bent, faulty, outcome, refused, written

TRIED = [(), ((2, 1),), SIX, FIFTEEN, THIRTY, THREES, FORTYTWO, SIXES, free(3, 5, 31)]


def right_outcome(count, thing):
    """What the checker has to say of any value, by [49] read once more."""
    fault = plain_choice_fault(count, thing)
    return hex(len(thing)) if fault is None else faulty(*fault)


class Choices(unittest.TestCase):
    def test_all_choices_of_small_counts(self):
        for count in SMALL_FREE:
            for choice in plain_choices(count):
                self.assertEqual(written(lets_choice(count, choice)), hex(len(choice)), (count, choice))

    def test_some_choices_of_great_counts(self):
        for count in GREAT_FREE:
            for choice in some_choices(count):
                self.assertEqual(written(lets_choice(count, choice)), hex(len(choice)), (count, choice))

    def test_all_short_things(self):
        rows = [row for size in range(4) for row in product(range(4), repeat=size)]
        for count in TRIED:
            for pair in product((2, 3, 5, 7), rows):
                self.assertEqual(outcome(lets_choice, count, (pair,)), right_outcome(count, (pair,)))

    def test_all_short_things_of_two(self):
        rows = [*product(range(3), repeat=2), (), (1,), (0,), (1, 0, 0), (1, True), [1, 0]]
        pairs = [*product((2, 3), rows), (2,), [2, (1, 0)], (4, (1, 0)), None]
        for count in (THIRTY, SIXES, FORTYTWO, THREES):
            for thing in product(pairs, repeat=2):
                self.assertEqual(outcome(lets_choice, count, thing), right_outcome(count, thing), (count, thing))

    def test_it_agrees_with_the_predicate(self):
        for count in TRIED:
            for choice in plain_choices(count):
                for thing in bent(choice):
                    self.assertIs(outcome(lets_choice, count, thing).startswith("0x"), is_choice(count, thing))


class Entries(unittest.TestCase):
    def follow(self, count, thing, word, at):
        """See that the checker says so, and that [49] read once more does."""
        self.assertEqual(outcome(lets_choice, count, thing), faulty(word, at), (count, thing))
        self.assertEqual(plain_choice_fault(count, thing), (word, at), (count, thing))

    def test_shape(self):
        for thing in ([], [(2, (1,))], None, True, 0, 2, "", "2", {}, {2: (1,)}):
            for count in (SIX, ()):
                self.follow(count, thing, "shape", -1)

    def test_pair(self):
        for pair in (None, 2, True, "2", (), (2,), (2, (1,), ()), [2, (1,)], (2, [1]), (2, 1), (2, None), (True, (1,)),
                     ("2", (1,)), ((2,), (1,)), ([2], (1,)), (None, (1,)), (5, (1,)), (4, (1,)), (1, (1,)), (-2, (1,)),
                     (6, (1,)), ((1,), 2)):
            self.follow(SIX, (pair,), "pair", 0)
            self.follow(SIX, ((2, (1,)), pair), "pair", 1)
            # What is wrong with the row of the first one comes behind all pairs.
            self.follow(SIX, ((2, ()), pair), "pair", 1)
            self.follow(SIX, ((2, (0,)), (3, (7,)), pair), "pair", 2)
            self.follow(SIX, (pair, pair), "pair", 0)
        self.follow((), ((2, ()),), "pair", 0)

    def test_order(self):
        self.follow(SIX, ((2, (1,)), (2, (1,))), "order", 1)
        self.follow(SIX, ((3, (1,)), (2, (1,))), "order", 1)
        self.follow(SIX, ((3, ()), (2, [])), "pair", 1)
        self.follow(SIX, ((2, ()), (2, ()), None), "order", 1)
        self.follow(THIRTY, ((2, ()), (5, ()), (3, ())), "order", 2)
        self.follow(THIRTY, ((2, ()), (3, ()), (3, ()), (2, ())), "order", 2)
        self.follow(THIRTY, ((5, ()), (3, ()), (2, ())), "order", 1)

    def test_row(self):
        self.follow(THIRTY, ((2, (1, 1)), (3, (1,))), "row", 0)
        self.follow(THIRTY, ((2, (1,)), (3, (1, 1))), "row", 1)
        self.follow(THIRTY, ((2, (1,)), (3, ())), "row", 1)
        self.follow(SIX, ((2, ()),), "row", 0)
        self.follow(SIX, ((2, (1, 0)),), "row", 0)
        self.follow(SIX, ((2, (None, None)),), "row", 0)
        self.follow(((2, 1),), ((2, (1,)),), "row", 0)
        # The row of the first one ahead of the second one's.
        self.follow(FORTYTWO, ((2, (0,)), (3, ())), "nought", 0)

    def test_number(self):
        for number in (None, True, False, "1", -1, 2, 3, (1,), [1], 10 ** 50):
            self.follow(SIX, ((2, (number,)),), "number", (0, 0))
            self.follow(THIRTY, ((2, (0, number)),), "number", (0, 1))
            self.follow(THIRTY, ((2, (number, number)),), "number", (0, 0))
        self.follow(THIRTY, ((3, (0, 1)),), "number", (0, 1))
        self.follow(THIRTY, ((3, (1, 0)),), "number", (0, 0))
        self.follow(THIRTY, ((3, (0, 0)),), "nought", 0)
        self.follow(SIX, ((3, (1,)),), "number", (0, 0))
        self.follow(THREES, ((3, (3, 2)),), "number", (0, 0))
        self.follow(THREES, ((3, (2, 3)),), "number", (0, 1))
        self.follow(THREES, ((3, (0, 3)),), "number", (0, 1))
        self.follow(FORTYTWO, ((2, (1,)), (3, (3,))), "number", (1, 0))
        self.follow(free(3, 5, 31), ((3, (1, 1)),), "number", (0, 0))
        self.follow(free(3, 5, 31), ((3, (0, 1)), (5, (0,))), "row", 0)
        self.follow(free(3, 5, 31), ((3, (1,)), (5, (5,))), "number", (1, 0))

    def test_nought(self):
        self.follow(SIX, ((2, (0,)),), "nought", 0)
        self.follow(SIX, ((3, (0,)),), "nought", 0)
        self.follow(THIRTY, ((2, (0, 0)),), "nought", 0)
        self.follow(((2, 1),), ((2, ()),), "nought", 0)
        self.follow(SIX, ((2, ()), (3, ())), "nought", 0)
        self.follow(FORTYTWO, ((2, (1,)), (3, (0,))), "nought", 1)
        self.follow(FORTYTWO, ((2, (0,)), (3, (2,))), "nought", 0)

    def test_first(self):
        self.follow(THREES, ((3, (2, 1)),), "first", 0)
        self.follow(THREES, ((3, (0, 2)),), "first", 0)
        self.follow(THREES, ((3, (2, 0)),), "first", 0)
        self.follow(FORTYTWO, ((2, (1,)), (3, (2,))), "first", 1)
        self.follow(FORTYTWO, ((3, (0, 2)),), "first", 0)
        self.follow(free(2, 5, 11, 31), ((2, (1, 0)), (5, (3, 1))), "first", 1)


class Bent(unittest.TestCase):
    def test_choices_with_one_change(self):
        many = 0
        for count in TRIED:
            for choice in plain_choices(count):
                for thing in bent(choice):
                    right = right_outcome(count, thing)
                    self.assertEqual(outcome(lets_choice, count, thing), right, (count, thing))
                    many += right.startswith("InvalidPaper")
        self.assertGreater(many, 2000)

    def test_choices_with_two_changes(self):
        for count in (SIX, THREES, FORTYTWO):
            for choice in plain_choices(count)[1:]:
                for once in bent(choice):
                    for thing in list(bent(once))[::5]:
                        self.assertEqual(outcome(lets_choice, count, thing), right_outcome(count, thing), (count, thing))

    def test_choices_of_other_counts(self):
        for count in SMALL_FREE[::3]:
            for other in SMALL_FREE[::4]:
                for choice in plain_choices(other):
                    self.assertEqual(outcome(lets_choice, count, choice), right_outcome(count, choice))


class Any(unittest.TestCase):
    def test_any_values(self):
        for thing in any_values():
            if not is_real_free(thing):
                self.assertEqual(outcome(lets_choice, thing, thing), refused("count"))
                self.assertEqual(outcome(lets_choice, thing, ()), refused("count"))
            for count in (SIX, (), THIRTY):
                self.assertEqual(outcome(lets_choice, count, thing), right_outcome(count, thing))
                self.assertEqual(outcome(lets_choice, count, ((2, thing),)), right_outcome(count, ((2, thing),)))
                self.assertEqual(outcome(lets_choice, SIX, ((2, (thing,)),)), right_outcome(SIX, ((2, (thing,)),)))

    def test_counts_that_are_not_square_free(self):
        for count in (FORTY, ((2, 2),), ((3, 1), (7, 2)), ((3, 2), (7, 1))):
            for thing in ((), None, ((3, (1,)),)):
                self.assertEqual(outcome(lets_choice, count, thing), refused("count"))

    def test_by_position_and_by_name(self):
        self.assertEqual([lets_choice(THIRTY, ((2, (1, 1)),)), lets_choice(thing=(), count=THIRTY)], [1, 0])

    def test_what_is_handed_in_stays(self):
        for thing in ([[2, [1]]], ([2, [1]],), ((2, [1]),), ((2, ([1],)),)):
            before = written(thing)
            outcome(lets_choice, SIX, thing)
            self.assertEqual(written(thing), before)
