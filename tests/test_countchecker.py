"""The checker of counts: [14] and what [11] says of checkers."""

import unittest

from forcedtables.countchecker import lets_count
from forcedtables.kinds import is_count
from tests.samples import EVERY_PRIME, any_values, faulty, outcome, plain_value, some_counts


class Accepted(unittest.TestCase):
    def test_values(self):
        for count in some_counts() + [EVERY_PRIME]:
            self.assertEqual(lets_count(count), plain_value(count))
            self.assertIs(type(lets_count(count)), int)


class Refused(unittest.TestCase):
    def expect(self, word, at, *things):
        for thing in things:
            self.assertEqual(outcome(lets_count, thing), faulty(word, at), thing)
            self.assertEqual(outcome(lets_count, thing=thing), faulty(word, at), thing)

    def test_shape(self):
        self.expect("shape", -1, [], [(2, 1)], None, True, 2, "", "ab", [[]])

    def test_pair(self):
        self.expect("pair", 0, ((),), ((2,),), ((2, 1, 1),), ([2, 1],), (2, 1), (None,), ("ab",), ([],))
        self.expect("pair", 1, ((2, 1), [3, 1]), ((2, 1), (3,)), ((2, 1), 3), ((2, 1), "ab"))

    def test_prime(self):
        self.expect("prime", 0, ((4, 1),), ((1, 1),), ((0, 1),), ((-2, 1),), ((10007, 1),), ((True, 1),), (("2", 1),),
                    (([2], 1),), (((2,), 1),), ((None, 1),))
        self.expect("prime", 2, ((2, 1), (3, 1), (9, 1)), ((2, 1), (3, 1), (True, 1)))

    def test_order(self):
        self.expect("order", 1, ((2, 1), (2, 1)), ((3, 1), (2, 1)), ((9973, 1), (9967, 1)))
        self.expect("order", 2, ((2, 1), (5, 1), (3, 1)), ((2, 1), (3, 1), (3, 1)), ((2, 1), (3, 1), (2, 1)))

    def test_power(self):
        self.expect("power", 0, ((2, 0),), ((2, 7),), ((2, -1),), ((2, True),), ((2, False),), ((2, "1"),),
                    ((2, None),), ((2, (1,)),), ((2, [1]),), ((2, 10 ** 59),))
        self.expect("power", 1, ((2, 6), (3, 7)), ((2, 1), (3, 0)), ((2, 1), (3, True)))

    def test_two_faults_in_one_element(self):
        self.expect("pair", 0, ((4, 0, 0),), ([4, 0],))
        self.expect("prime", 0, ((4, 0),))
        self.expect("prime", 1, ((5, 1), (4, 1)), ((5, 1), (4, 7)))
        self.expect("order", 1, ((5, 1), (3, 7)), ((5, 1), (5, True)))

    def test_faults_in_two_elements(self):
        self.expect("power", 0, ((2, 7), (4, 1)), ((2, 7), None), ((3, 0), (2, 1)))
        self.expect("order", 1, ((3, 1), (2, 1), None), ((3, 1), (3, 1), (4, 1)))
        self.expect("prime", 0, ((4, 1), (3, 1), (2, 1)), ((4, 1), []))
        self.expect("pair", 0, ([2, 1], (4, 1)))
        self.expect("power", 1, ((2, 1), (3, 9), (3, 1)))

    def test_any_values(self):
        for thing in any_values():
            accepted = not outcome(lets_count, thing).startswith("InvalidPaper")
            self.assertIs(is_count(thing), accepted)
            if not isinstance(thing, tuple):
                self.expect("shape", -1, thing)
            if not (isinstance(thing, tuple) and len(thing) == 2):
                self.expect("pair", 1, ((2, 1), thing))
