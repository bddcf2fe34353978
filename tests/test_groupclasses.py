"""Groups as objects: [61], [62]."""

import inspect
import unittest
from itertools import product

from forcedtables import groupclasses
from forcedtables.errors import GroupError
from forcedtables.groupclasses import Group
from forcedtables.leading import choice_of
from forcedtables.orderlooks import orders_in
from forcedtables.rulechecker import is_rule
from tests.choicesamples import (GREAT_FREE, LED, SMALL_FREE, THREES, free, is_free_rule, is_real_free,
                                 plain_choice_fault, plain_choices, plain_group, some_choices)
from tests.samples import (FIFTEEN, FORTY, S3, SIX, THIRTY, any_values, is_real, outcome, plain_value, refused, told_of,
                           written)

ACT = ((2, (1,)),)
PAIRS = [(count, choice) for count in SMALL_FREE[::3] + GREAT_FREE[::3] for choice in some_choices(count, 3)]


class Derived(Group):
    """A class derived from Group that adds nothing."""


def times_of(one, other):
    """Two objects put together."""
    return one * other


def choice_of_it(call, *args):
    """The choice of the Group that a call returns, or its error, as a text."""
    return told_of(Group, "choice_now", call, *args)


class Made(unittest.TestCase):
    def test_of_choices(self):
        for count, choice in PAIRS:
            for one in (Group(count, choice), Group(choice=choice, count=count), Derived(count, choice)):
                self.assertEqual(written([one.count_now, one.choice_now]), written([count, choice]))
                self.assertEqual(written(one.rule_now), written(plain_group(count, choice)))

    def test_as_handed_in(self):
        count, choice = tuple([*SIX]), tuple([*ACT])
        one = Group(count, choice)
        self.assertIs(one.count_now, count)
        self.assertIs(one.choice_now, choice)

    def test_refused(self):
        for thing in [*any_values(), FORTY, Group(SIX, ACT), Group]:
            if not is_real_free(thing):
                self.assertEqual(outcome(Group, thing, thing), refused("count"))
                self.assertEqual(outcome(Group, thing, ()), refused("count"))
            if plain_choice_fault(SIX, thing) is not None:
                self.assertEqual(outcome(Group, SIX, thing), refused("choice"))

    def test_of_rules(self):
        for rule, count, choice in LED:
            for one in (Group.of(rule), Group.of(rule=rule)):
                self.assertIs(type(one), Group)
                self.assertEqual([one.count_now, one.choice_now], [count, choice])
        for thing in [*any_values(), (("power", 5, 2),), Group(SIX, ())]:
            if not (is_rule(thing) and is_free_rule(thing)):
                self.assertEqual(choice_of_it(Group.of, thing), refused("rule"))

    def test_of_its_own_rule(self):
        for count, choice in PAIRS:
            self.assertTrue(Group.of(Group(count, choice).rule_now) == Group(count, choice))

    def test_names_and_places(self):
        self.assertEqual([Group.__bases__, Group.__module__], [(object,), groupclasses.__name__])
        self.assertEqual(list(inspect.signature(Group).parameters), ["count", "choice"])
        self.assertEqual(list(inspect.signature(Group.of).parameters), ["rule"])
        self.assertIsInstance(vars(Group)["of"], classmethod)
        for name in ("count_now", "choice_now", "rule_now"):
            self.assertIsInstance(vars(Group)[name], property)
        for name in ("__init__", "__getitem__", "__contains__", "__len__", "__iter__", "__eq__", "__mul__"):
            self.assertTrue(inspect.isfunction(vars(Group)[name]), name)


class Told(unittest.TestCase):
    def test_orders(self):
        for count, choice in PAIRS:
            one = Group(count, choice)
            pairs = orders_in(count, choice)
            orders = [order for order, _ in pairs]
            self.assertEqual([written(list(one)), len(one), [order for order in one]],
                             [written(orders), len(orders), orders])
            for order, many in pairs[:3] + pairs[-3:]:
                self.assertEqual([one[order], order in one], [many, True])
            for order in (4, plain_value(count) * 2, 10 ** 59 + 7, *range(1, 43)):
                self.assertEqual(written([one[order], order in one]), written([dict(pairs).get(order, 0), order in orders]))

    def test_any_values(self):
        one = Group(SIX, ACT)
        for thing in [*any_values(), one, Group, slice(0, 1)]:
            self.assertIs(thing in one, is_real(thing) and thing in (1, 2, 3))
            right = {1: 1, 2: 3, 3: 2}.get(thing, 0) if is_real(thing) else None
            if is_real(thing) and thing >= 1:
                self.assertEqual(written(one[thing]), hex(right))
            else:
                self.assertEqual(outcome(lambda: one[thing]), refused("order"))

    def test_true_is_not_one(self):
        self.assertEqual([True in Group(SIX, ACT), 1 in Group(SIX, ACT)], [False, True])

    def test_equal(self):
        made = [(pair, kind(*pair)) for pair in PAIRS for kind in (Group, Derived)]
        for (pair, one), (late, other) in product(made[::2] + made[1::8], made[::3]):
            self.assertIs(one == other, pair == late)
            self.assertIs(one != other, pair != late)

    def test_equal_to_nothing_else(self):
        one = Group(SIX, ACT)
        for thing in [*any_values(), SIX, ACT, (SIX, ACT), Group, S3]:
            self.assertIs(one == thing, False)
            self.assertIs(thing == one, False)
        self.assertIs(Group(THREES, ((3, (1, 1)),)) == Group(THREES, ((3, (1, 2)),)), False)
        self.assertIs(Group(THIRTY, ((2, (0, 1)),)) == Group(THIRTY, ((2, (1, 0)),)), False)
        self.assertIs(Group((), ()) == Group(((2, 1),), ()), False)


class Products(unittest.TestCase):
    def test_of_small_ones(self):
        made = [(count, Group(count, choice)) for count, choice in PAIRS]
        for (count, one), (late, other) in product(made[::2], made[::5]):
            if {prime for prime, _ in count} & {prime for prime, _ in late}:
                self.assertEqual(choice_of_it(times_of, one, other), refused("other"))
                continue
            if len(count) + len(late) > 8:
                continue
            both = one * other
            self.assertIs(type(both), Group)
            self.assertEqual(both.count_now, tuple(sorted(count + late)))
            self.assertEqual((both.count_now, both.choice_now), choice_of(one.rule_now + other.rule_now))
            self.assertTrue(both == other * one)
            self.assertEqual(len(both), len(one) * len(other))
            for a, b in product(list(one)[:4], list(other)[-4:]):
                self.assertEqual(both[a * b], one[a] * other[b])

    def test_all_choices_of_coprime_counts(self):
        for count, late in ((SIX, free(5, 11)), (THREES, free(2, 5)), (free(2, 3), free(5, 31)), (THIRTY, free(7, 29))):
            for choice, second in product(plain_choices(count), plain_choices(late)):
                both = Group(count, choice) * Group(late, second)
                rest = [p for p, _ in both.count_now if p not in dict(choice) and p not in dict(second)]
                rows = {p: dict(zip([q for q, _ in own if q not in dict(pairs)], row))
                        for own, pairs in ((count, choice), (late, second)) for p, row in pairs}
                right = tuple((p, tuple(rows[p].get(q, 0) for q in rest)) for p in sorted(rows))
                self.assertEqual(both.choice_now, right)
                self.assertTrue(Derived(count, choice) * Derived(late, second) == both)
                self.assertIs(type(Derived(count, choice) * Derived(late, second)), Group)

    def test_refused(self):
        one = Group(SIX, ACT)
        for thing in [*any_values(), SIX, (SIX, ACT), Group, None, one]:
            self.assertEqual(choice_of_it(times_of, one, thing), refused("other"))
        for count in (SIX, ((2, 1),), ((3, 1),), FIFTEEN, THIRTY, free(3, 9973)):
            self.assertEqual(choice_of_it(times_of, one, Group(count, ())), refused("other"))
        self.assertEqual((one * Group((), ())).choice_now, ACT)
        self.assertEqual((Group((), ()) * Group((), ())).count_now, ())


class NeverChanged(unittest.TestCase):
    def test_by_no_use(self):
        one, other = Group(SIX, ACT), Group(free(5, 11), ())
        for call in (lambda: one * other, lambda: one * None, lambda: one[2], lambda: one[0], lambda: list(one),
                     lambda: 6 in one, lambda: len(one), lambda: one == other, lambda: one.rule_now, lambda: Group.of(1)):
            try:
                call()
            except GroupError:
                pass
            self.assertEqual([one.count_now, one.choice_now, list(one), other.count_now, list(other)],
                             [SIX, ACT, [1, 2, 3], free(5, 11), [1, 5, 11, 55]])

    def test_in_place_signs_leave_the_object(self):
        one = kept = Group(SIX, ACT)
        one *= Group(((5, 1),), ())
        self.assertEqual([one.choice_now, kept.choice_now], [((2, (1, 0)),), ACT])

    def test_properties_are_not_assigned(self):
        for name in ("count_now", "choice_now", "rule_now"):
            with self.assertRaises(AttributeError):
                setattr(Group(SIX, ACT), name, ())
