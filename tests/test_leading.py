"""Rules led to choices, and rules that are alike: [55], [56]."""

import unittest
from itertools import combinations_with_replacement, permutations, product
from math import gcd

from forcedtables.choices import choices_of, group_of
from forcedtables.judging import does_commute
from forcedtables.leading import are_alike, choice_of
from forcedtables.orderlooks import central_in, orders_in
from forcedtables.rulechecker import lets_rule
from tests.choicesamples import (GREAT_FREE, LED, SMALL_FREE, THREES, free, is_free_rule, is_real_free, plain_alike,
                                 plain_choice_fault, plain_choices, plain_unlike, raised_act, shaped, some_choices)
from tests.samples import (GREAT_RULES, S3, SMALL_RULES, THIRTY, any_values, outcome, plain_count, plain_value, refused,
                           written)

UNFREE = [(("power", 5, 2),), (("knot", 2),), (("ring", 4),), (("ring", 2), ("ring", 2)), (("act", 5, 4, 2),),
          (("turn", 2, ((0, 1), (1, 1)), 3),), (("ring", 10007),), (("act", 10007, 2, 10006),), (("ring", 3), S3[0]),
          (("act", 9, 2, 8),), (("act", 1, 4, 0),), (("ring", 2 * 10007),), (("ring", 128),), (("act", 6, 10007, 1),)]
# Rules of few elements, so that it can be tried whether they are alike.
FEW = sorted({rule for count in SMALL_FREE if plain_value(count) <= 42 for choice in plain_choices(count)
              for rule in list(shaped(count, choice))[:9:2]}, key=lambda rule: (lets_rule(rule), written(rule)))


class Led(unittest.TestCase):
    def follow(self, rule, count, choice):
        """See that the rule is led to this count and choice, by position and by name."""
        right = written((count, choice))
        self.assertEqual([written(choice_of(rule)), written(choice_of(rule=rule))], [right, right], rule)

    def test_known_rules(self):
        for rule, count, choice in LED:
            self.assertIsNone(plain_choice_fault(count, choice), rule)
            for order in permutations(rule):
                self.follow(order, count, choice)

    def test_groups_of_all_choices_of_small_counts(self):
        for count in SMALL_FREE:
            for choice in plain_choices(count):
                self.follow(group_of(count, choice), count, choice)

    def test_many_forms_of_them(self):
        many = 0
        for count in SMALL_FREE + GREAT_FREE:
            for choice in some_choices(count):
                for rule in shaped(count, choice):
                    self.follow(rule, count, choice)
                    many += 1
        self.assertGreater(many, 3000)

    def test_each_order_of_the_pieces(self):
        for count in SMALL_FREE[::4] + GREAT_FREE[::5]:
            for choice in some_choices(count):
                for rule in shaped(count, choice):
                    if len(rule) <= 4:
                        for order in permutations(rule):
                            self.follow(order, count, choice)
                            self.follow((("ring", 1), *order, ("act", 1, 1, 0)), count, choice)

    def test_all_acts_of_few_elements(self):
        for m, d in product(range(1, 32), range(1, 16)):
            if not is_real_free(plain_count(m * d)) or gcd(m, d) > 1:
                continue
            for u in [u for u in range(m) if pow(u, d, m) == 1 % m]:
                rule = (("act", m, d, u),)
                count, choice = choice_of(rule)
                self.assertEqual(plain_value(count), m * d)
                self.assertIsNone(plain_choice_fault(count, choice))
                self.assertIs(does_commute(rule), choice == ())
                if m * d <= 60:
                    self.assertEqual((orders_in(count, choice), central_in(count, choice)), plain_unlike(rule), rule)
                for power in range(1, d):
                    if gcd(power, d) == 1:
                        self.assertEqual(choice_of((raised_act(rule[0], power),)), (count, choice))

    def test_eight_primes_in_all_kinds_of_pieces(self):
        rule = (("turn", 31, ((2,),), 5), ("act", 7 * 13, 3 * 11, 9), ("power", 9973, 1), ("ring", 17))
        count = free(3, 5, 7, 11, 13, 17, 31, 9973)
        for order in permutations(rule):
            self.follow(order, count, ((3, (1, 0, 2, 0, 0, 0)), (5, (0, 0, 0, 0, 1, 0))))

    def test_a_prime_that_acts_on_itself_by_nothing(self):
        # 3 stands among the turns, but moves nothing; 2 moves 5, and 7 is moved by neither.
        self.follow((("act", 35, 6, 29),), free(2, 3, 5, 7), ((2, (0, 1, 0)),))
        self.follow((("act", 35, 6, 34),), free(2, 3, 5, 7), ((2, (0, 1, 1)),))


class Alike(unittest.TestCase):
    def test_all_pairs_of_rules_of_few_elements(self):
        many = [0, 0]
        for rule, other in combinations_with_replacement(FEW, 2):
            if lets_rule(rule) != lets_rule(other):
                self.assertIs(are_alike(rule, other), False)
                continue
            right = plain_alike(rule, other)
            self.assertIs(are_alike(rule, other), right, (rule, other))
            self.assertIs(are_alike(other=rule, rule=other), right)
            many[right] += 1
        self.assertGreater(min(many), 20)

    def test_pairs_of_known_rules(self):
        for (rule, count, choice), (other, late, second) in product(LED, repeat=2):
            self.assertIs(are_alike(rule, other), (count, choice) == (late, second), (rule, other))

    def test_pairs_of_forms(self):
        for count in (THREES, THIRTY, free(2, 3, 7), free(2, 3, 5, 7), GREAT_FREE[2], GREAT_FREE[8]):
            forms = [(choice, rule) for choice in some_choices(count) for rule in list(shaped(count, choice))[::4]]
            for (choice, rule), (late, other) in combinations_with_replacement(forms, 2):
                self.assertIs(are_alike(rule, other), choice == late)

    def test_unlike_rules_with_as_many_elements_of_each_order(self):
        one, two = (("act", 91, 3, 16),), (("act", 91, 3, 9),)
        self.assertEqual([are_alike(one, two), are_alike(one, (("act", 91, 3, 74),)), are_alike(two, two)],
                         [False, True, True])

    def test_unlike_orders(self):
        self.assertIs(are_alike((("ring", 6),), (("ring", 10),)), False)
        self.assertIs(are_alike((("ring", 1),), (("ring", 2),)), False)
        self.assertIs(are_alike((("ring", 1),), (("act", 1, 1, 0), ("ring", 1))), True)


class Refused(unittest.TestCase):
    def test_rules_of_other_orders(self):
        for rule in [*UNFREE, *GREAT_RULES, *SMALL_RULES]:
            if not is_free_rule(rule):
                self.assertEqual(outcome(choice_of, rule), refused("rule"))
                self.assertEqual(outcome(are_alike, rule, rule), refused("rule"))
                self.assertEqual(outcome(are_alike, S3, rule), refused("other"))
                self.assertEqual(outcome(are_alike, rule, None), refused("rule"))
            else:
                self.assertEqual(plain_value(choice_of(rule)[0]), lets_rule(rule))

    def test_any_values(self):
        for thing in any_values():
            if not is_free_rule(thing):
                self.assertEqual(outcome(choice_of, thing), refused("rule"))
                self.assertEqual(outcome(are_alike, thing, thing), refused("rule"))
                self.assertEqual(outcome(are_alike, thing, S3), refused("rule"))
                self.assertEqual(outcome(are_alike, S3, thing), refused("other"))
            else:
                self.assertIs(are_alike(thing, thing), True)

    def test_what_is_handed_in_stays(self):
        for rule in ([["ring", 6]], (["ring", 6],), [("act", 3, 2, 2)], (("turn", 7, [[4]], 3),)):
            before = written(rule)
            outcome(choice_of, rule)
            outcome(are_alike, rule, rule)
            self.assertEqual(written(rule), before)

    def test_each_choice_once(self):
        for count in SMALL_FREE[::5]:
            led = [choice_of(group_of(count, choice)) for choice in choices_of(count)]
            self.assertEqual(led, [(count, choice) for choice in choices_of(count)])
