"""How many elements of each order, and how many commute with all: [53], [54]."""

import unittest
from math import prod

from forcedtables.choices import group_of
from forcedtables.orderlooks import central_in, many_of_order, orders_in
from forcedtables.orders import order_of
from forcedtables.rules import commutes_with
from tests.choicesamples import (GREAT_FREE, SMALL_FREE, THREES, free, is_real_free, plain_choice_fault, plain_choices,
                                 plain_unlike, rest_of, some_choices)
from tests.samples import FORTY, SIX, THIRTY, all_of, any_values, is_real, outcome, plain_value, refused, written


def plain_orders(count, choice):
    """The pairs of orders and how many elements have them, by going through all turns prime by prime.

    In each turn (x, t) a prime at rest that t moves has any number, and no part in the order.
    """
    rest = rest_of(count, choice)
    found = {1: 1}
    for marks in range(2 ** len(choice)):
        turning = [pair for at, pair in enumerate(choice) if marks >> at & 1]
        here = {prod(p for p, _ in turning): prod(p - 1 for p, _ in turning)}
        for at, q in enumerate(rest):
            if any(row[at] for _, row in turning):
                here = {order: many * q for order, many in here.items()}
            else:
                here = {order * by: many * (q - 1 if by == q else 1) for order, many in here.items() for by in (1, q)}
        found.update(here)
    return tuple(sorted(found.items()))


class Looks(unittest.TestCase):
    def test_all_elements_of_small_groups(self):
        for count in SMALL_FREE:
            if plain_value(count) > 80:
                break
            for choice in plain_choices(count):
                orders, central = plain_unlike(group_of(count, choice))
                self.assertEqual(written(orders_in(count, choice)), written(orders), (count, choice))
                self.assertEqual(written(central_in(count, choice)), hex(central), (count, choice))
                for order in range(1, plain_value(count) + 3):
                    self.assertEqual(written(many_of_order(count, choice, order)), hex(dict(orders).get(order, 0)))

    def test_all_elements_of_some_greater_groups(self):
        for count in (free(2, 3, 5, 7), THREES, free(2, 5, 11), free(2, 3, 43), free(3, 7, 19), free(2, 7, 29)):
            for choice in plain_choices(count)[::3]:
                rule = group_of(count, choice)
                orders = [order_of(rule, part) for part in all_of(rule)]
                right = tuple((order, orders.count(order)) for order in sorted(set(orders)))
                self.assertEqual(orders_in(count, choice), right, (count, choice))
                one, turn = ((1, 0),), ((0, 1 % rule[0][2]),)
                # What commutes with two elements that make all others commutes with all.
                central = sum(commutes_with(rule, part, one) and commutes_with(rule, part, turn) for part in all_of(rule))
                self.assertEqual(central_in(count, choice), central, (count, choice))

    def test_all_choices_of_small_counts(self):
        for count in SMALL_FREE:
            for choice in plain_choices(count):
                self.assertEqual(written(orders_in(count, choice)), written(plain_orders(count, choice)), (count, choice))

    def test_great_counts(self):
        for count in GREAT_FREE:
            for choice in some_choices(count):
                right = plain_orders(count, choice)
                self.assertEqual(written(orders_in(count, choice)), written(right), (count, choice))
                for order, many in right[::7] + right[-2:]:
                    self.assertEqual(many_of_order(count, choice, order), many)
                rest = rest_of(count, choice)
                central = prod(q for at, q in enumerate(rest) if not any(row[at] for _, row in choice))
                self.assertEqual(written(central_in(count, choice)), hex(central))

    def test_known_ones(self):
        self.assertEqual(orders_in((), ()), ((1, 1),))
        self.assertEqual(orders_in(free(9973), ()), ((1, 1), (9973, 9972)))
        self.assertEqual(orders_in(free(2, 9973), ((2, (1,)),)), ((1, 1), (2, 9973), (9973, 9972)))
        self.assertEqual([central_in((), ()), central_in(free(9973), ()), central_in(free(2, 9973), ((2, (1,)),))],
                         [1, 9973, 1])


class Consequences(unittest.TestCase):
    def test_of_orders(self):
        for count in SMALL_FREE + GREAT_FREE:
            for choice in some_choices(count):
                value = plain_value(count)
                orders = orders_in(count, choice)
                self.assertEqual(sum(many for _, many in orders), value)
                self.assertTrue(all(value % order == 0 and many > 0 for order, many in orders))
                self.assertIs(value in dict(orders), choice == ())
                rest = rest_of(count, choice)
                for p, row in choice:
                    for q, number in zip(rest, row):
                        if number:
                            self.assertFalse([order for order, _ in orders if order % (p * q) == 0])

    def test_alike_ones_of_unlike_choices(self):
        self.assertEqual(orders_in(THREES, ((3, (1, 1)),)), orders_in(THREES, ((3, (1, 2)),)))

    def test_no_order(self):
        for order in (4, 12, 7, 60, 31, 10 ** 59 + 7, 30 ** 20, 9973):
            self.assertEqual(written(many_of_order(THIRTY, ((2, (1, 0)),), order)), "0x0")
            self.assertEqual(written(many_of_order(THIRTY, (), order)), "0x0")


class Refused(unittest.TestCase):
    def test_counts(self):
        for thing in [*any_values(), FORTY]:
            if not is_real_free(thing):
                for args in ((thing, ()), (thing, thing), (thing, None)):
                    self.assertEqual(outcome(orders_in, *args), refused("count"))
                    self.assertEqual(outcome(central_in, *args), refused("count"))
                    self.assertEqual(outcome(many_of_order, *args, 0), refused("count"))

    def test_choices(self):
        for thing in [*any_values(), ((2, (0,)),), ((2, (True,)),), [], ((3, (1,)),), ((2, (1, 0)),)]:
            if plain_choice_fault(SIX, thing) is not None:
                self.assertEqual(outcome(orders_in, SIX, thing), refused("choice"))
                self.assertEqual(outcome(central_in, SIX, thing), refused("choice"))
                self.assertEqual(outcome(many_of_order, SIX, thing, 0), refused("choice"))
                self.assertEqual(outcome(many_of_order, SIX, thing, 2), refused("choice"))

    def test_orders(self):
        for thing in [*any_values(), 0, -1, True, False, None, "2", (2,), [2]]:
            if not is_real(thing) or thing < 1:
                self.assertEqual(outcome(many_of_order, SIX, (), thing), refused("order"))
            else:
                self.assertEqual(written(many_of_order(SIX, (), thing)), hex({1: 1, 2: 1, 3: 2, 6: 2}.get(thing, 0)))

    def test_by_position_and_by_name(self):
        choice = ((2, (1,)),)
        self.assertEqual(orders_in(SIX, choice), orders_in(choice=choice, count=SIX))
        self.assertEqual(many_of_order(SIX, choice, 2), many_of_order(order=2, choice=choice, count=SIX))
        self.assertEqual(central_in(SIX, choice), central_in(choice=choice, count=SIX))
