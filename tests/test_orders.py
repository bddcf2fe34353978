"""Orders of elements and of rules: [10], [26], [28]."""

import unittest
from itertools import islice
from math import gcd, lcm

from forcedtables.orders import order_of, order_of_rule, powers_of, span_of
from forcedtables.rules import back, one_of, to_the, turned_by
from forcedtables.rulechecker import lets_rule
from tests.samples import (FOUR, MERSENNE, MIXED, S3, SIXTY_DIGITS, SMALL_RULES, all_of, any_values, outcome,
                           plain_together, refused, written)

MANY = [*SMALL_RULES, (("knot", 5),), (("knot", 2), ("knot", 3)), (("power", 2, 6),), (("turn", 3, ((2,),), 2), FOUR),
        (("act", 31, 5, 2),), (("act", 31, 10, 4),), (("ring", 100),), (("act", 21, 4, 13),)]


def plain_powers(rule, element):
    """One, the element and so on, up to the last before one comes again."""
    found = [one_of(rule)]
    here = element
    while here != found[0]:
        found.append(here)
        here = plain_together(rule, here, element)
    return found


class OfElements(unittest.TestCase):
    def test_all_elements(self):
        for rule in MANY:
            for element in all_of(rule):
                self.assertEqual(order_of(rule, element), len(plain_powers(rule, element)), (rule, element))

    def test_all_small_rings(self):
        for m in range(1, 40):
            for x in range(m):
                self.assertEqual(order_of((("ring", m),), (x,)), m // gcd(x, m))

    def test_great_ones(self):
        self.assertEqual(order_of((("ring", 10 ** 59),), (10 ** 20,)), 10 ** 39)
        self.assertEqual(order_of((("ring", 10 ** 59),), (3,)), 10 ** 59)
        self.assertEqual(order_of((("ring", SIXTY_DIGITS),), (0,)), 1)
        self.assertEqual(order_of((("power", 9973, 6),), ((0, 0, 0, 0, 0, 1),)), 9973)
        self.assertEqual(order_of((("knot", 9973),), ((1, 2, 3),)), 9973)
        self.assertEqual(order_of((("act", 1, SIXTY_DIGITS, 0),), ((0, 1),)), SIXTY_DIGITS)
        self.assertEqual(order_of((("act", SIXTY_DIGITS, 1, 1),), ((1, 0),)), SIXTY_DIGITS)
        # 199 turns by 2 change nothing modulo this, and 10 ** 57 has no common divisor above 1 with it.
        great = (("act", MERSENNE, 199 * 10 ** 57, 2),)
        self.assertEqual(order_of(great, ((1, 0),)), MERSENNE)
        self.assertEqual(order_of(great, ((0, 1),)), 199 * 10 ** 57)
        self.assertEqual(order_of(great, ((0, 199),)), 10 ** 57)
        self.assertEqual(order_of(great, ((1, 199),)), MERSENNE * 10 ** 57)

    def test_they_give_one_and_no_part_of_them_does(self):
        rule = (("act", MERSENNE, 199 * 10 ** 20, 2), ("knot", 2), ("turn", 9973, ((9972, 0), (0, 1)), 2), ("ring", 45))
        for element in (((5, 3), (1, 1, 0), ((4, 5), 1), 3), ((0, 10), (1, 0, 0), ((4, 0), 1), 0),
                        ((5, 199), (0, 0, 0), ((4, 0), 0), 9)):
            order = order_of(rule, element)
            self.assertEqual(to_the(rule, element, order), one_of(rule))
            for prime in (2, 3, 5, 199, 9973, 164504919713, MERSENNE // 164504919713, MERSENNE):
                if order % prime == 0 and order > 1:
                    self.assertNotEqual(to_the(rule, element, order // prime), one_of(rule), (element, prime))

    def test_knots(self):
        for prime in (2, 3, 5):
            for element in all_of((("knot", prime),)):
                right = 1 if element == ((0, 0, 0),) else prime
                if element in (((1, 1, 0),), ((1, 1, 1),)) and prime == 2:
                    right = 4
                self.assertEqual(order_of((("knot", prime),), element), right)

    def test_what_is_no_element(self):
        for thing in any_values():
            if written(thing) not in [written(part) for part in all_of(S3)]:
                self.assertEqual(outcome(order_of, S3, thing), refused("element"))
                self.assertEqual(outcome(order_of, [S3], thing), refused("rule"))


class OfRules(unittest.TestCase):
    def test_order_of_rule(self):
        for rule in MANY:
            self.assertEqual(order_of_rule(rule), len(all_of(rule)))
        great = (("ring", SIXTY_DIGITS), ("act", MERSENNE, 199, 2))
        self.assertEqual(order_of_rule(great), SIXTY_DIGITS * MERSENNE * 199)
        self.assertEqual(order_of_rule(MIXED), 960)

    def test_span_of(self):
        for rule in MANY:
            orders = [len(plain_powers(rule, element)) for element in all_of(rule)]
            self.assertEqual(span_of(rule), lcm(*orders), rule)

    def test_spans_of_great_pieces(self):
        spans = {("ring", SIXTY_DIGITS): SIXTY_DIGITS, ("power", 9973, 6): 9973, ("knot", 9973): 9973, ("knot", 2): 4,
                 FOUR: 6, ("turn", 9973, ((9972,),), 2): 19946, ("act", MERSENNE, 199, 2): MERSENNE * 199,
                 ("act", 1, 6, 0): 6, ("ring", 1): 1}
        for piece, span in spans.items():
            self.assertEqual(span_of((piece,)), span)
            for other, more in spans.items():
                self.assertEqual(span_of((piece, other)), lcm(span, more))


class PowersOf(unittest.TestCase):
    def test_all_elements(self):
        for rule in MANY:
            for element in all_of(rule)[::2]:
                self.assertEqual(written(list(powers_of(rule, element))), written(plain_powers(rule, element)))

    def test_they_are_what_to_the_tells(self):
        for element in all_of(MIXED)[::53]:
            found = list(powers_of(MIXED, element))
            self.assertEqual(len(found), order_of(MIXED, element))
            self.assertEqual(found, [to_the(MIXED, element, times) for times in range(len(found))])

    def test_one_by_one(self):
        rule = (("ring", SIXTY_DIGITS),)
        found = powers_of(rule, (7,))
        self.assertEqual([next(found), next(found), next(found)], [(0,), (7,), (14,)])
        last = SIXTY_DIGITS - 1
        self.assertEqual(list(islice(powers_of(rule, (last,)), 3)), [(0,), (last,), (last - 1,)])

    def test_errors_come_with_the_first_one(self):
        for args, name in ((([S3], ((1, 0),)), "rule"), ((S3, (1, 0)), "element"), (((), None), "rule"),
                           ((S3, None), "element")):
            found = powers_of(*args)
            self.assertEqual(outcome(next, found), refused(name))
            self.assertEqual(outcome(powers_of, *args), refused(name))


class Consequences(unittest.TestCase):
    def test_of_parts(self):
        for rule in MANY:
            for element in all_of(rule)[::3]:
                parts = [order_of((piece,), (part,)) for piece, part in zip(rule, element)]
                self.assertEqual(order_of(rule, element), lcm(*parts))

    def test_divided(self):
        for rule in MANY:
            self.assertEqual(lets_rule(rule) % span_of(rule), 0)
            for element in all_of(rule):
                self.assertEqual(span_of(rule) % order_of(rule, element), 0)

    def test_back_and_turned_by(self):
        for rule in MANY:
            found = all_of(rule)[::3]
            for element, other in zip(found, reversed(found)):
                self.assertEqual(order_of(rule, back(rule, element)), order_of(rule, element))
                self.assertEqual(order_of(rule, turned_by(rule, element, other)), order_of(rule, element))

    def test_turns_and_acts_by_their_columns(self):
        for rule in MANY:
            piece = rule[0]
            if len(rule) > 1 or piece[0] not in ("turn", "act"):
                continue
            many = piece[3] if piece[0] == "turn" else piece[2]
            for (x, t), in all_of(rule):
                rounds = many // gcd(t, many)
                column, turns = to_the(rule, ((x, t),), rounds)[0]
                self.assertEqual(turns, 0)
                flat = (("ring", piece[1]),) if piece[0] == "act" else (("power", piece[1], len(piece[2])),)
                self.assertEqual(order_of(rule, ((x, t),)), rounds * order_of(flat, (column,)))
