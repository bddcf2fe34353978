"""What counts force, as objects: [46], [47]."""

import inspect
import unittest
from itertools import product

from forcedtables import forcedclasses
from forcedtables.countchanges import times
from forcedtables.errors import GroupError
from forcedtables.forced import kinds_forced, reasons_against
from forcedtables.forcedclasses import Forced
from forcedtables.forcedpapers import forced_paper
from forcedtables.otherwise import not_commuting, not_cyclic, not_split
from tests.kindsamples import COUNTS, EIGHT, FORTYFIVE, GREAT_COUNTS, KINDS, TWELVE, plain_forces
from tests.samples import FIFTEEN, SIX, THIRTY, any_values, outcome, refused, told_of, written

MADE = dict(zip(KINDS, (not_cyclic, not_commuting, not_split)))


class Derived(Forced):
    """A class derived from Forced that adds nothing."""


def count_of_it(call, *args):
    """The count of the Forced that a call returns, or its error, as a text."""
    return told_of(Forced, "of_count", call, *args)


def times_of(one, other):
    """Two objects put together."""
    return one * other


class Made(unittest.TestCase):
    def test_of_counts(self):
        for count in COUNTS:
            for one in (Forced(count), Forced(count=count), Derived(count)):
                self.assertEqual(written(one.of_count), written(count))

    def test_refused(self):
        for thing in ([], [SIX], [(2, 1)], ((4, 1),), ((2, 7),), ((2, True),), ((3, 1), (2, 1)), ((2, 1), (2, 1)), 6,
                      None, True, "2^1", Forced(SIX), Forced):
            self.assertEqual(outcome(Forced, thing), refused("count"))

    def test_names_and_places(self):
        self.assertEqual([Forced.__bases__, Forced.__module__], [(object,), forcedclasses.__name__])
        self.assertEqual(list(inspect.signature(Forced).parameters), ["count"])
        self.assertEqual(list(inspect.signature(Forced(SIX)).parameters), ["kind"])
        self.assertEqual(list(inspect.signature(Forced(SIX).paper).parameters), ["kind"])
        self.assertIsInstance(vars(Forced)["of_count"], property)
        for name in ("__init__", "__getitem__", "__call__", "paper", "__contains__", "__len__", "__iter__", "__str__",
                     "__mul__", "__eq__"):
            self.assertTrue(inspect.isfunction(vars(Forced)[name]), name)


class Told(unittest.TestCase):
    def test_kinds(self):
        for count in COUNTS:
            one = Forced(count)
            right = tuple(kind for kind in KINDS if plain_forces(count, kind))
            for kind in KINDS:
                self.assertIs(one[kind], kind in right)
                self.assertEqual(written(one(kind)), written(MADE[kind](count)))
                self.assertEqual(written(one(kind=kind)), written(one(kind)))
                self.assertEqual(written(one.paper(kind)), written(forced_paper(count, kind)))
                self.assertEqual(written(one.paper(kind=kind)), written(one.paper(kind)))
            self.assertEqual([len(one), list(one), tuple(one)], [len(right), list(right), right])
            self.assertEqual([kind for kind in one], list(kinds_forced(count)))
            self.assertEqual(written(str(one)), written(" ".join(right) or "-"))

    def test_texts(self):
        texts = {FIFTEEN: "cyclic commute split", FORTYFIVE: "commute split", EIGHT: "split", SIX: "-", (): KINDS}
        for count, text in texts.items():
            self.assertEqual(str(Forced(count)), " ".join(text) if text is KINDS else text)

    def test_what_is_no_kind(self):
        one = Forced(FIFTEEN)
        for thing in [*any_values(), one, slice(0, 1), Forced]:
            if type(thing) is str and thing in KINDS:
                continue
            for call in (lambda: one[thing], lambda: one(thing), lambda: one.paper(thing)):
                self.assertEqual(outcome(call), refused("kind"))

    def test_reasons(self):
        for count in COUNTS:
            one = Forced(count)
            reasons = reasons_against(count, "cyclic")
            for other in COUNTS[::40]:
                for reason in reasons_against(other, "cyclic"):
                    self.assertIs(reason in one, reason in reasons)
            for reason in reasons:
                self.assertIs(reason in one, True)
                for thing in (list(reason), reason + (1,), reason[:-1], reason[1:], (reason,), str(reason)):
                    self.assertIs(thing in one, False)

    def test_true_is_not_one(self):
        one = Forced(SIX)
        self.assertEqual([("act", 2, 3, 1) in one, ("act", 2, 3, True) in one, ["act", 2, 3, 1] in one],
                         [True, False, False])
        self.assertEqual([("power", 2, 2) in Forced(TWELVE), ("power", 2, 3) in Forced(TWELVE)], [True, False])

    def test_any_values_as_reasons(self):
        for thing in any_values() + [("act",), ("act", 2), ("act", 2, 3), ("act", [2], 3, 1), ("act", None, 3, 1),
                                     (["act"], 2, 3, 1), ("act", 3, 2, 1), (("act", 2, 3, 1),), Forced(SIX)]:
            self.assertIs(thing in Forced(SIX), False)


class Operators(unittest.TestCase):
    def test_products(self):
        for count, other in [*product(COUNTS[::9], COUNTS[::9]), *product(GREAT_COUNTS, GREAT_COUNTS[::5])]:
            right = outcome(times, count, other)
            for one, late in ((Forced(count), Forced(other)), (Derived(count), Derived(other))):
                self.assertEqual(count_of_it(times_of, one, late), right)

    def test_a_product_forces_no_more(self):
        for count, other in product(COUNTS[::7], COUNTS[::11]):
            if outcome(times, count, other).startswith("tuple"):
                both = set(Forced(count) * Forced(other))
                self.assertLessEqual(both, set(Forced(count)) & set(Forced(other)))

    def test_refused(self):
        one = Forced(FIFTEEN)
        for thing in [*any_values(), Forced, SIX, None]:
            self.assertEqual(count_of_it(times_of, one, thing), refused("other"))
        for count, other in ((((2, 6),), ((2, 1),)), (((2, 3), (5, 4)), ((5, 3),)), (((9973, 6),), ((9973, 6),))):
            self.assertEqual(count_of_it(times_of, Forced(count), Forced(other)), refused("other"))
        self.assertEqual((Forced(((2, 3),)) * Forced(((2, 3),))).of_count, ((2, 6),))

    def test_equal(self):
        for count, other in product(COUNTS[::5], COUNTS[::3]):
            for one, late in product((Forced(count), Derived(count)), (Forced(other), Derived(other))):
                self.assertIs(one == late, count == other)
                self.assertIs(one != late, count != other)

    def test_equal_to_nothing_else(self):
        for thing in [*any_values(), (), SIX, KINDS, Forced]:
            self.assertIs(Forced(()) == thing, False)
            self.assertIs(thing == Forced(()), False)
            self.assertIs(Forced(SIX) == thing, False)


class NeverChanged(unittest.TestCase):
    def test_by_no_use(self):
        one, other = Forced(FIFTEEN), Forced(THIRTY)
        for call in (lambda: one * other, lambda: one * None, lambda: one["split"], lambda: one["none"],
                     lambda: one("cyclic"), lambda: one([]), lambda: one.paper("commute"), lambda: one.paper(1),
                     lambda: list(one), lambda: str(one), lambda: len(one), lambda: one == other, lambda: () in one):
            try:
                call()
            except GroupError:
                pass
            self.assertEqual([one.of_count, list(one), other.of_count, list(other)], [FIFTEEN, list(KINDS), THIRTY, []])

    def test_in_place_signs_leave_the_object(self):
        one = kept = Forced(SIX)
        one *= Forced(FIFTEEN)
        self.assertEqual([one.of_count, kept.of_count], [((2, 1), (3, 2), (5, 1)), SIX])

    def test_properties_are_not_assigned(self):
        with self.assertRaises(AttributeError):
            Forced(SIX).of_count = ()
