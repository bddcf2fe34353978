"""Elements of rules, put together: [4], [5], [10], [22] to [25]."""

import unittest
from itertools import product

from forcedtables.rulechecker import is_rule, lets_rule
from forcedtables.rules import (back, commutes_with, is_element, one_of, product_of, put_together, swap_of, to_the,
                                turned_by)
from tests.samples import (FOUR, GREAT_RULES, HUGE, MERSENNE, MIXED, S3, SIX_ROWS, SIXTY_DIGITS, SMALL_RULES, all_of,
                           any_values, outcome, plain_together, refused, written)

SOME_TIMES = (SIXTY_DIGITS, 10 ** 60 - 1, -SIXTY_DIGITS, 10 ** 59, -(10 ** 60) + 1, 6 ** 70, 17, -17)


def one_by_search(rule):
    """The element that changes nothing, found among all."""
    found = all_of(rule)
    return [one for one in found if all(plain_together(rule, one, part) == part for part in found)][0]


class Elements(unittest.TestCase):
    def test_there_are_as_many_as_the_order_of_the_rule(self):
        for rule in SMALL_RULES:
            self.assertTrue(is_rule(rule), rule)
            found = all_of(rule)
            self.assertEqual(len(set(found)), lets_rule(rule))
            for element in found:
                self.assertIs(is_element(rule, element), True)

    def test_what_is_none(self):
        wrong = {
            (("ring", 3),): [(), (3,), (-1,), (True,), ("1",), (None,), ((1,),), ([1],), (1, 1), [1], 1, None, "a"],
            (("power", 3, 2),): [((1,),), ((1, 1, 1),), ((1, 3),), ((-1, 0),), ((1, True),), ([1, 1],), (1, 1), ((),),
                                 ((1, "1"),), ("ab",), (None,), ((1, (1,)),), ((1, 1), ())],
            (("power", 3, 1),): [(1,), ((),), ((3,),), ((1, 1),), ((True,),), ([1],)],
            (("knot", 2),): [((1, 1),), ((1, 1, 1, 1),), ((0, 0, 2),), ((2, 0, 0),), ((0, False, 0),), ([0, 0, 0],),
                             (0, 0, 0), ("abc",), (None,), (((0, 0), 0),)],
            (FOUR,): [((1, 0),), (((1, 0),),), (((1, 0), 3),), (((1, 0), -1),), (((1, 0), True),), (((1, 2), 0),),
                      (((1,), 0),), (((1, 0, 0), 0),), (([1, 0], 0),), ([(1, 0), 0],), (((1, 0), 0, 0),), ((1, 0), 0),
                      ((0, (1, 0)),), (((1, 0), None),), (((True, 0), 0),), ((1, 1),), (None,)],
            S3: [(1, 0), ((3, 0),), ((0, 2),), ((-1, 0),), ((0, -1),), ((True, 0),), ((0, True),), ((1,),),
                 ((1, 0, 0),), ([1, 0],), [(1, 0)], (((1,), 0),), ((1, (0,)),), ((1, "0"),), ((None, 0),), (0,),
                 ("ab",)],
            MIXED: [(), ((1, 0, 1),), ((1, 0, 1), ((1, 0), 1)), ((1, 0, 1), ((1, 0), 1), 10),
                    ((1, 0, 1), ((1, 0), 1), 7, 0), (((1, 0), 1), (1, 0, 1), 7), [(1, 0, 1), ((1, 0), 1), 7],
                    ((1, 0, 1), ((1, 0), 1), True)],
            (("ring", 1),): [(1,), (False,), ()],
            (("act", 1, 6, 0),): [((1, 0),), ((0, 6),), ((False, 0),)],
        }
        for rule, things in wrong.items():
            for thing in things:
                self.assertIs(is_element(rule, thing), False, (rule, thing))
                self.assertEqual(outcome(back, rule, thing), refused("element"))
                self.assertEqual(outcome(put_together, rule, thing, one_of(rule)), refused("element"))
                self.assertEqual(outcome(put_together, rule, one_of(rule), thing), refused("other"))
                self.assertEqual(outcome(product_of, rule, one_of(rule), thing, thing), refused("parts", 1))

    def test_any_values(self):
        for rule in SMALL_RULES[::3]:
            right = [written(part) for part in all_of(rule)]
            for thing in any_values():
                self.assertIs(is_element(rule, thing), written(thing) in right, (rule, thing))

    def test_great_ones(self):
        for rule, parts in GREAT_RULES.items():
            for part in parts:
                self.assertIs(is_element(rule, part), True)
        for element in ((SIXTY_DIGITS, (0, 0), (0, 0), (0, 0)), (0, (MERSENNE, 0), (0, 0), (0, 0)),
                        (0, (0, 199 * 10 ** 57), (0, 0), (0, 0)), (0, (0, 0), (0, SIXTY_DIGITS), (0, 0)),
                        (0, (0, 0), (0, 0), (0, 1))):
            self.assertIs(is_element(HUGE, element), False)
        self.assertIs(is_element(HUGE, (0, (0, 0), (0, 0), (0, 0))), True)

    def test_one(self):
        for rule in SMALL_RULES:
            self.assertEqual(written(one_of(rule)), written(one_by_search(rule)))
        self.assertEqual(one_of(HUGE), (0, (0, 0), (0, 0), (0, 0)))
        self.assertEqual(one_of((("power", 2, 6), ("knot", 5), FOUR)), ((0,) * 6, (0, 0, 0), ((0, 0), 0)))


class PutTogether(unittest.TestCase):
    def test_all_elements_of_small_rules(self):
        for rule in SMALL_RULES:
            for element, other in product(all_of(rule), repeat=2):
                right = plain_together(rule, element, other)
                self.assertEqual(put_together(rule, element, other), right, rule)
                self.assertEqual(product_of(rule, element, other), right, rule)

    def test_results_are_elements_of_plain_values(self):
        for rule, parts in [*GREAT_RULES.items(), *[(rule, all_of(rule)[::7]) for rule in SMALL_RULES]]:
            for element, other in product(parts, repeat=2):
                for result in (put_together(rule, element, other), back(rule, element), to_the(rule, element, 5),
                               turned_by(rule, element, other), swap_of(rule, element, other),
                               product_of(rule, element, other, element), one_of(rule)):
                    self.assertIs(is_element(rule, result), True)
                self.assertIs(type(commutes_with(rule, element, other)), bool)

    def test_great_turns_and_acts(self):
        for element, other in product(GREAT_RULES[SIX_ROWS], repeat=2):
            self.assertEqual(put_together(SIX_ROWS, element, other), plain_together(SIX_ROWS, element, other))
        for element, other in product(GREAT_RULES[HUGE], repeat=2):
            if element[1][1] < 1000:
                self.assertEqual(put_together(HUGE, element, other), plain_together(HUGE, element, other))
        # 2 has the order 199 modulo that number, so that great turns are known by their remainder.
        rule = HUGE[1:2]
        late = put_together(rule, ((0, 199 * 10 ** 56 + 3),), ((5, 0),))
        self.assertEqual(late, ((40, 199 * 10 ** 56 + 3),))

    def test_any_number_of_parts(self):
        for rule in SMALL_RULES:
            parts = all_of(rule)
            self.assertEqual(product_of(rule), one_of(rule))
            for element in parts:
                self.assertEqual(product_of(rule, element), element)
            result = one_of(rule)
            for element in parts:
                result = plain_together(rule, result, element)
            self.assertEqual(product_of(rule, *parts), result)

    def test_the_first_part_that_is_no_element_is_named(self):
        self.assertEqual(outcome(product_of, S3, ((3, 0),)), refused("parts", 0))
        self.assertEqual(outcome(product_of, S3, ((1, 0),), None, [], ((2, 0),)), refused("parts", 1))
        self.assertEqual(outcome(product_of, S3, ((1, 0),), ((1, 1),), (1, 0)), refused("parts", 2))
        self.assertEqual(outcome(product_of, S3, ((1, 0),), ((1, 1),), ((True, 0),)), refused("parts", 2))
        self.assertEqual(outcome(product_of, [S3], None, None), refused("rule"))
        self.assertEqual(outcome(product_of, ()), refused("rule"))
        for thing in any_values():
            right = written(thing) in [written(part) for part in all_of(S3)]
            if not right:
                self.assertEqual(outcome(product_of, S3, ((1, 0),), thing), refused("parts", 1))


class Powers(unittest.TestCase):
    def test_few_times(self):
        for rule in SMALL_RULES:
            for element in all_of(rule):
                here = one_of(rule)
                for times in range(14):
                    self.assertEqual(to_the(rule, element, times), here, (rule, element, times))
                    self.assertEqual(put_together(rule, to_the(rule, element, -times), here), one_of(rule))
                    here = plain_together(rule, here, element)

    def test_back(self):
        for rule in SMALL_RULES:
            found = all_of(rule)
            for element in found:
                undone = [other for other in found if plain_together(rule, element, other) == one_of(rule)]
                self.assertEqual([back(rule, element)], undone)
                self.assertEqual([to_the(rule, element, -1)], undone)
                self.assertEqual(plain_together(rule, undone[0], element), one_of(rule))

    def test_back_of_great_ones(self):
        for rule, parts in GREAT_RULES.items():
            for part in parts:
                self.assertEqual(put_together(rule, part, back(rule, part)), one_of(rule))
                self.assertEqual(put_together(rule, back(rule, part), part), one_of(rule))
                self.assertEqual(back(rule, back(rule, part)), part)

    def test_sixty_digits_times_in_small_rules(self):
        for rule in SMALL_RULES:
            for element in all_of(rule)[::3]:
                for times in SOME_TIMES:
                    # Each element, as often as the rule has elements, gives one.
                    right = one_of(rule)
                    for _ in range(times % lets_rule(rule)):
                        right = plain_together(rule, right, element)
                    self.assertEqual(to_the(rule, element, times), right, (rule, element, times))

    def test_sixty_digits_times_in_great_rules(self):
        for rule, parts in GREAT_RULES.items():
            for part in parts:
                for times, more in product(SOME_TIMES, repeat=2):
                    both = put_together(rule, to_the(rule, part, times), to_the(rule, part, more))
                    self.assertEqual(to_the(rule, part, times + more), both)
                    self.assertEqual(to_the(rule, to_the(rule, part, times), 3), to_the(rule, part, 3 * times))
                self.assertEqual(to_the(rule, part, 0), one_of(rule))
                self.assertEqual(to_the(rule, part, 1), part)
                self.assertEqual(to_the(rule, part, 3), product_of(rule, part, part, part))

    def test_ring_and_power_and_knot_by_hand(self):
        self.assertEqual(to_the((("ring", 10 ** 59),), (3,), 10 ** 58 + 1), (3 * 10 ** 58 + 3,))
        self.assertEqual(to_the((("power", 5, 2),), ((1, 2),), 10 ** 59 + 3), ((3, 1),))
        self.assertEqual(to_the((("knot", 2),), ((1, 1, 0),), 2), ((0, 0, 1),))
        self.assertEqual(to_the((("knot", 2),), ((1, 1, 0),), 10 ** 59 + 3), ((1, 1, 1),))
        self.assertEqual(to_the((("knot", 3),), ((1, 1, 0),), 2), ((2, 2, 1),))
        self.assertEqual(to_the((("knot", 7),), ((2, 3, 1),), 7 * 10 ** 50), ((0, 0, 0),))
        self.assertEqual(to_the((("knot", 7),), ((2, 3, 1),), 7 * 10 ** 50 + 2), ((4, 6, 1),))

    def test_only_an_integer_says_how_often(self):
        for thing in (True, False, None, "1", "", (1,), [1], ()):
            self.assertEqual(outcome(to_the, S3, ((1, 0),), thing), refused("times"))
            self.assertEqual(outcome(to_the, S3, (1, 0), thing), refused("element"))
            self.assertEqual(outcome(to_the, [], (1, 0), thing), refused("rule"))


class TwoElements(unittest.TestCase):
    def test_all_elements_of_small_rules(self):
        for rule in SMALL_RULES:
            found = all_of(rule)
            for element, other in product(found, found[::2]):
                ahead, behind = plain_together(rule, element, other), plain_together(rule, other, element)
                self.assertIs(commutes_with(rule, element, other), ahead == behind)
                self.assertEqual(plain_together(rule, other, turned_by(rule, element, other)), ahead)
                self.assertEqual(plain_together(rule, behind, swap_of(rule, element, other)), ahead)

    def test_great_rules(self):
        for rule, parts in GREAT_RULES.items():
            for element, other in product(parts, repeat=2):
                ahead, behind = put_together(rule, element, other), put_together(rule, other, element)
                self.assertIs(commutes_with(rule, element, other), ahead == behind)
                self.assertEqual(put_together(rule, other, turned_by(rule, element, other)), ahead)
                self.assertEqual(put_together(rule, behind, swap_of(rule, element, other)), ahead)


class Consequences(unittest.TestCase):
    def test_three_elements(self):
        for rule, parts in [*GREAT_RULES.items(), *[(rule, all_of(rule)[::4]) for rule in SMALL_RULES]]:
            for one, two, three in product(parts, repeat=3):
                self.assertEqual(put_together(rule, put_together(rule, one, two), three),
                                 put_together(rule, one, put_together(rule, two, three)))

    def test_back_of_two(self):
        for rule in SMALL_RULES:
            for element, other in product(all_of(rule)[::2], repeat=2):
                self.assertEqual(back(rule, put_together(rule, element, other)),
                                 put_together(rule, back(rule, other), back(rule, element)))

    def test_swap_and_turn_where_two_commute(self):
        for rule in SMALL_RULES:
            for element, other in product(all_of(rule)[::2], repeat=2):
                commute = commutes_with(rule, element, other)
                self.assertIs(commute, swap_of(rule, element, other) == one_of(rule))
                self.assertIs(commute, turned_by(rule, element, other) == element)

    def test_turned_by_goes_part_by_part(self):
        for rule in SMALL_RULES:
            for one, two, other in product(all_of(rule)[::4], repeat=3):
                self.assertEqual(turned_by(rule, put_together(rule, one, two), other),
                                 put_together(rule, turned_by(rule, one, other), turned_by(rule, two, other)))

    def test_rings_and_powers_commute(self):
        for rule in ((("ring", 12),), (("power", 3, 2), ("ring", 2)), (("power", 2, 3),)):
            for element, other in product(all_of(rule), repeat=2):
                self.assertIs(commutes_with(rule, element, other), True)

    def test_back_is_one_of_the_powers(self):
        for rule in SMALL_RULES:
            for element in all_of(rule):
                self.assertEqual(back(rule, element), to_the(rule, element, lets_rule(rule) - 1))
