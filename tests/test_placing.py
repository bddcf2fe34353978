"""Elements by numbers: [27], [28]."""

import unittest

from forcedtables.placing import element_at, number_of
from forcedtables.rulechecker import lets_rule
from forcedtables.rules import one_of
from tests.samples import (FOUR, GREAT_RULES, HUGE, MERSENNE, MIXED, S3, SIX_ROWS, SIXTY_DIGITS, SMALL_RULES, all_of,
                           any_values, is_real, outcome, refused, written)

MANY = [*SMALL_RULES, MIXED, (("power", 2, 6),), (("turn", 3, ((0, 1), (1, 0)), 2), ("act", 5, 4, 2)),
        (FOUR, ("knot", 3), ("power", 3, 1)), (("ring", 11), ("act", 1, 6, 0), ("act", 6, 1, 1), ("ring", 1))]

# The first and the last element of great rules; between them stand as many as their order says.
ENDS = {
    (("ring", SIXTY_DIGITS),): [(0,), (SIXTY_DIGITS - 1,)],
    (("power", 9973, 6),): [((0,) * 6,), ((9972,) * 6,)],
    (("knot", 9973),): [((0, 0, 0),), ((9972, 9972, 9972),)],
    SIX_ROWS: [(((0,) * 6, 0),), (((9972,) * 6, 2),)],
    (("act", MERSENNE, 199, 2),): [((0, 0),), ((MERSENNE - 1, 198),)],
    (("act", 1, SIXTY_DIGITS, 0),): [((0, 0),), ((0, SIXTY_DIGITS - 1),)],
    HUGE: [(0, (0, 0), (0, 0), (0, 0)),
           (SIXTY_DIGITS - 1, (MERSENNE - 1, 199 * 10 ** 57 - 1), (0, SIXTY_DIGITS - 1), (SIXTY_DIGITS - 1, 0))],
}


class AllNumbers(unittest.TestCase):
    def test_of_small_rules(self):
        for rule in MANY:
            found = all_of(rule)
            self.assertEqual(found, sorted(found))
            for number, element in enumerate(found):
                self.assertEqual(written(element_at(rule, number)), written(element), rule)
                self.assertEqual(written(number_of(rule, element)), written(number), rule)
            self.assertEqual(outcome(element_at, rule, len(found)), refused("number"))

    def test_one_is_the_first(self):
        for rule in [*MANY, *GREAT_RULES, *ENDS]:
            self.assertEqual(element_at(rule, 0), one_of(rule))
            self.assertEqual(number_of(rule, one_of(rule)), 0)


class GreatRules(unittest.TestCase):
    def test_first_and_last(self):
        for rule, (first, last) in ENDS.items():
            many = lets_rule(rule)
            self.assertEqual([element_at(rule, 0), element_at(rule, many - 1)], [first, last])
            self.assertEqual([number_of(rule, first), number_of(rule, last)], [0, many - 1])
            for number in (many, many + 1, many * many, -1, -many):
                self.assertEqual(outcome(element_at, rule, number), refused("number"))

    def test_each_takes_the_other_back(self):
        for rule, parts in GREAT_RULES.items():
            for part in parts:
                self.assertEqual(element_at(rule, number_of(rule, part)), part)
            many = lets_rule(rule)
            for number in (1, 2, 17, many // 3, many // 2, many * 2 // 3, many - 2):
                self.assertEqual(number_of(rule, element_at(rule, number)), number)

    def test_in_the_order_of_python(self):
        for rule in [*GREAT_RULES, *ENDS]:
            many = lets_rule(rule)
            numbers = sorted({0, 1, 2, 3, 1000 % many, many // 7, many // 2, many // 2 + 1, many - 2, many - 1})
            found = [element_at(rule, number) for number in numbers]
            self.assertEqual(found, sorted(found))
            self.assertEqual(len(set(found)), len(numbers))

    def test_by_hand(self):
        self.assertEqual(element_at((("power", 10 - 3, 6),), 7 ** 5 + 3 * 7 + 4), ((1, 0, 0, 0, 3, 4),))
        self.assertEqual(number_of((("knot", 9973),), ((1, 2, 3),)), 9973 ** 2 + 2 * 9973 + 3)
        self.assertEqual(number_of(SIX_ROWS, (((0, 0, 0, 0, 1, 2), 1),)), (9973 + 2) * 3 + 1)
        self.assertEqual(element_at((("act", MERSENNE, 199, 2), ("ring", 10)), 1990 * 5 + 77), ((5, 7), 7))
        self.assertEqual(element_at((("ring", 10 ** 20), ("ring", 10 ** 30)), 7 * 10 ** 30 + 3), (7, 3))
        self.assertEqual(number_of((("ring", 10 ** 20), ("ring", 10 ** 30)), (7, 3)), 7 * 10 ** 30 + 3)


class Refused(unittest.TestCase):
    def test_numbers(self):
        for thing in any_values():
            stands = is_real(thing) and 0 <= thing < 6
            if not stands:
                self.assertEqual(outcome(element_at, S3, thing), refused("number"))
                self.assertEqual(outcome(element_at, [S3], thing), refused("rule"))
        for thing in (True, False):
            self.assertEqual(outcome(element_at, (("ring", 1),), thing), refused("number"))

    def test_elements(self):
        right = [written(part) for part in all_of(S3)]
        for thing in any_values():
            if written(thing) not in right:
                self.assertEqual(outcome(number_of, S3, thing), refused("element"))
            self.assertEqual(outcome(number_of, (), thing), refused("rule"))

    def test_by_name(self):
        self.assertEqual(element_at(number=4, rule=S3), ((2, 0),))
        self.assertEqual(number_of(element=((2, 1),), rule=S3), 5)
