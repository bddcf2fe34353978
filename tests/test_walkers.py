"""Walkers: [30], [31]."""

import inspect
import unittest
from itertools import product

from forcedtables import walkers
from forcedtables.orders import order_of
from forcedtables.rules import one_of, product_of, put_together
from forcedtables.walkers import Walker
from tests.samples import (GREAT_RULES, MIXED, S3, SMALL_RULES, all_of, any_values, outcome, plain_together, refused,
                           written)

A, B = ((1, 0),), ((0, 1),)
WALKS = [*GREAT_RULES.items(), *[(rule, all_of(rule)[::2][:40]) for rule in SMALL_RULES]]


class Derived(Walker):
    """A class derived from Walker that adds nothing."""


def walked(rule, parts):
    """A walker that went by these elements."""
    walker = Walker(rule)
    for part in parts:
        walker.step(part)
    return walker


def went(walker, element):
    """Go by the sign, and return where it is then."""
    walker += element
    return walker.here_now


def told(walker):
    """All that a walker tells of itself."""
    return written([walker.rule_now, walker.here_now, walker.steps_now, walker.home(), len(walker), list(walker)])


class Made(unittest.TestCase):
    def test_at_first(self):
        for rule, _ in WALKS:
            for walker in (Walker(rule), Walker(rule=rule)):
                self.assertEqual(told(walker), written([rule, one_of(rule), (), 1, 0, []]))

    def test_refused(self):
        for thing in [[S3], (), ("act", 3, 2, 2), (("act", 7, 3, 3),), (("ring", True),), None, True, 3, "ring 3"]:
            self.assertEqual(outcome(Walker, thing), refused("rule"))

    def test_names_and_places(self):
        self.assertEqual(Walker.__module__, walkers.__name__)
        self.assertEqual(list(inspect.signature(Walker).parameters), ["rule"])
        self.assertEqual(list(inspect.signature(Walker(S3)).parameters), ["element"])
        for name, names in {"step": ["element"], "undo": [], "home": []}.items():
            self.assertTrue(inspect.isfunction(vars(Walker)[name]))
            self.assertEqual(list(inspect.signature(getattr(Walker(S3), name)).parameters), names)
        for name in ("rule_now", "here_now", "steps_now"):
            self.assertIsInstance(vars(Walker)[name], property)
        for name in ("__init__", "__iadd__", "__call__", "__len__", "__iter__", "__eq__"):
            self.assertIn(name, vars(Walker))


class Walked(unittest.TestCase):
    def test_steps(self):
        for rule, parts in WALKS:
            walker, other = Walker(rule), Walker(rule)
            here, places = one_of(rule), []
            for at, part in enumerate(parts, 1):
                here = plain_together(rule, here, part) if rule in SMALL_RULES else put_together(rule, here, part)
                places.append(here)
                self.assertEqual(written(walker.step(part)), written(here))
                self.assertEqual(written(went(other, part)), written(here))
                right = written([rule, here, tuple(parts[:at]), order_of(rule, here), at, places])
                self.assertEqual([told(walker), told(other)], [right, right])
            self.assertEqual(walker.here_now, product_of(rule, *parts))

    def test_the_sign_keeps_the_object(self):
        walker = kept = Walker(S3)
        walker += A
        self.assertIs(walker, kept)
        self.assertEqual([kept.steps_now, kept.here_now], [(A,), A])

    def test_undo(self):
        for rule, parts in WALKS:
            walker = Walker(rule)
            before = []
            for part in parts:
                before.append(told(walker))
                walker.step(part)
            for part in reversed(parts):
                self.assertEqual(written(walker.undo()), written(part))
                self.assertEqual(told(walker), before.pop())
            self.assertEqual(outcome(walker.undo), "NothingToUndo 0x0")
            self.assertEqual(told(walker), told(Walker(rule)))
            self.assertEqual(walker.step(parts[0]), parts[0])

    def test_undo_right_behind_a_step(self):
        for rule, parts in WALKS:
            walker = walked(rule, parts[:3])
            before = told(walker)
            for part in parts:
                walker.step(part)
                walker.undo()
                went(walker, part)
                self.assertEqual(walker.undo(), part)
                self.assertEqual(told(walker), before)

    def test_call(self):
        for rule, parts in WALKS:
            for many in (0, 1, 2, len(parts)):
                walker = walked(rule, parts[:many])
                before = told(walker)
                for part in parts[:10]:
                    right = put_together(rule, part, walker.here_now)
                    self.assertEqual(written([walker(part), walker(element=part)]), written([right, right]))
                self.assertEqual(told(walker), before)

    def test_home(self):
        for first, second, third in product(all_of(S3), repeat=3):
            walker = walked(S3, (first, second, third))
            times, here = 1, product_of(S3, first, second, third)
            while here != one_of(S3):
                times, here = times + 1, product_of(S3, here, first, second, third)
            self.assertEqual(walker.home(), times)
        self.assertEqual(Walker(MIXED).home(), 1)

    def test_forty_steps(self):
        walker = walked(MIXED, all_of(MIXED)[5:45])
        self.assertEqual([len(walker), len(list(walker)), len(walker.steps_now)], [40, 40, 40])
        self.assertEqual(walker.here_now, list(walker)[-1])

    def test_by_name(self):
        walker = Walker(S3)
        self.assertEqual([walker.step(element=A), walker.step(element=B)], [A, ((1, 1),)])


class Equal(unittest.TestCase):
    def test_by_rules_and_steps(self):
        walks = [(rule, parts) for rule in (S3, (("act", 3, 2, 1),), (("act", 3, 4, 2),))
                 for parts in ((), (A,), (B,), (A, B), (B, A), (((1, 1),),), (A, A, A))]
        for (rule, parts), (other, steps) in product(walks, repeat=2):
            for late in (walked(other, steps), Derived(other)):
                for step in steps if type(late) is Derived else ():
                    late.step(step)
                self.assertIs(walked(rule, parts) == late, (rule, parts) == (other, steps))
                self.assertIs(walked(rule, parts) != late, (rule, parts) != (other, steps))

    def test_way_back_counts_as_not_gone(self):
        walker = walked(S3, (A, B))
        walker.undo()
        self.assertIs(walker == walked(S3, (A,)), True)

    def test_equal_to_nothing_else(self):
        walker = walked(S3, (A, B))
        for thing in any_values() + [S3, (A, B), [A, ((1, 1),)], Walker]:
            self.assertIs(walker == thing, False)
            self.assertIs(thing == walker, False)


class Refused(unittest.TestCase):
    def test_a_call_that_raises_changes_nothing(self):
        right = [written(part) for part in all_of(S3)]
        walker = walked(S3, (A, B))
        before = told(walker)
        for thing in any_values() + [walker, one_of(MIXED), S3]:
            if written(thing) not in right:
                self.assertEqual(outcome(walker.step, thing), refused("element"))
                self.assertEqual(outcome(went, walker, thing), refused("element"))
                self.assertEqual(outcome(walker, thing), refused("element"))
                self.assertEqual(told(walker), before)

    def test_two_at_once(self):
        one, other, third = Walker(S3), Walker(S3), Walker(MIXED)
        one.step(A)
        other.step(B)
        one.step(A)
        self.assertEqual([one.steps_now, other.steps_now, third.steps_now], [(A, A), (B,), ()])
        self.assertEqual([one.undo(), one.undo(), outcome(one.undo), len(other)], [A, A, "NothingToUndo 0x0", 1])

    def test_what_was_told_stays(self):
        walker = walked(S3, (A, B))
        steps, places, going = walker.steps_now, list(walker), iter(walker)
        walker.undo()
        walker.step(A)
        places.append(None)
        self.assertEqual([steps, list(going), list(walker)], [(A, B), [A, ((1, 1),)], [A, ((2, 0),)]])

    def test_properties_are_not_assigned(self):
        for name in ("rule_now", "here_now", "steps_now"):
            with self.assertRaises(AttributeError):
                setattr(Walker(S3), name, ())
