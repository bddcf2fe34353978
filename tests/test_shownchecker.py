"""What shows that a rule is not of a kind: [43]."""

import unittest
from itertools import product

from forcedtables.judging import shown_against
from forcedtables.shownchecker import lets_shown
from tests.kindsamples import (DIHEDRAL, FOURFOLD, KIND_RULES, KINDS, KNOT, LARGE_RULES, plain_kinds, plain_order,
                               plain_shown_fault)
from tests.samples import (FOUR, MIXED, S3, SIXTY_DIGITS, all_of, any_values, bent, faulty, outcome, refused, written)

A, B, ONE = ((1, 0),), ((0, 1),), ((0, 0),)
SIXTY = (("ring", 60),)
BENT_RULES = [FOURFOLD, KNOT, DIHEDRAL, (FOUR,), (("power", 3, 2),), (("act", 5, 4, 2),), (("ring", 5), S3[0]),
              (("ring", 6), ("ring", 4))]


def right_outcome(rule, kind, thing):
    """What the checker has to say of any value, by [43] read once more."""
    fault = plain_shown_fault(rule, kind, thing)
    return "True" if fault is None else faulty(*fault)


class Entries(unittest.TestCase):
    def follow(self, rule, kind, thing, right):
        """See that the checker says so, and that [43] read once more does."""
        self.assertEqual(outcome(lets_shown, rule, kind, thing), right, (kind, thing))
        self.assertEqual(right_outcome(rule, kind, thing), right, (kind, thing))

    def test_shape(self):
        apart, torn, twins = ("apart", A, B), ("torn", A, B, 3, 2), ("twins", A, B, 2)
        for kind, things in {"cyclic": (torn, twins[:3], twins + (2,), apart[:2], apart + (2,)),
                             "commute": (torn, twins, apart[:2], apart + (B,), torn[:3]),
                             "split": (apart, twins, torn[:4], torn + (1,), torn[:3])}.items():
            for thing in (*things, list(apart), [], (), ("apart",), ("Apart", A, B), (None, A, B), (["apart"], A, B),
                          (("apart",), A, B), (True, A, B), "apart", ("other", A, B), (A, B), None, True, 0,
                          ("", A, B), ("apart ", A, B), ["torn", A, B, 3, 2], ["twins", A, B, 2]):
                self.follow(DIHEDRAL, kind, thing, faulty("shape", -1))
        for kind in KINDS:
            for thing in any_values():
                self.follow(DIHEDRAL, kind, thing, faulty("shape", -1))

    def test_elements(self):
        for thing in ((1, 0), [(1, 0)], ((3, 0),), ((True, 0),), ((0, 2),), (), None, 0, "A", ((1, 0), (0, 1)), S3):
            for kind, word, more in (("cyclic", "twins", (4,)), ("cyclic", "apart", ()), ("commute", "apart", ()),
                                     ("split", "torn", (0, None))):
                self.follow(DIHEDRAL, kind, (word, thing, B, *more), faulty("first", -1))
                self.follow(DIHEDRAL, kind, (word, thing, thing, *more), faulty("first", -1))
                self.follow(DIHEDRAL, kind, (word, B, thing, *more), faulty("second", -1))

    def test_twins(self):
        for thing in (0, 1, 4, 9, -2, True, None, "2", (2,), 10007, [2], SIXTY_DIGITS):
            self.follow(SIXTY, "cyclic", ("twins", (1,), (1,), thing), faulty("prime", -1))
            self.follow(SIXTY, "cyclic", ("twins", (0,), (0,), thing), faulty("prime", -1))
        for a, b, prime, word, at in ((30, 30, 3, "power", 0), (20, 30, 3, "power", 1), (30, 20, 2, "power", 1),
                                      (1, 1, 7, "power", 0), (0, 20, 3, "one", -1), (0, 0, 3, "one", -1),
                                      (0, 0, 7, "one", -1), (0, 20, 2, "power", 1), (20, 0, 3, "among", 0),
                                      (20, 20, 3, "among", 1), (20, 40, 3, "among", 2), (12, 48, 5, "among", 4),
                                      (24, 12, 5, "among", 3), (30, 30, 2, "among", 1)):
            self.follow(SIXTY, "cyclic", ("twins", (a,), (b,), prime), faulty(word, at))
        self.follow(FOURFOLD, "cyclic", ("twins", (1, 1), (1, 1), 2), faulty("among", 1))
        self.follow(FOURFOLD, "cyclic", ("twins", (1, 1), (0, 1), 2), "True")
        self.follow(FOURFOLD, "cyclic", ("twins", (1, 1), (0, 1), 3), faulty("power", 0))
        self.follow(KNOT, "cyclic", ("twins", ((0, 1, 0),), ((0, 0, 1),), 2), "True")
        self.follow(KNOT, "cyclic", ("twins", ((1, 1, 0),), ((0, 0, 1),), 2), faulty("power", 0))
        self.follow(KNOT, "cyclic", ("twins", ((1, 0, 0),), ((1, 1, 1),), 2), faulty("power", 1))
        self.follow(DIHEDRAL, "cyclic", ("twins", B, ((1, 1),), 2), "True")
        self.follow(DIHEDRAL, "cyclic", ("twins", A, ((2, 0),), 3), faulty("among", 2))

    def test_torn(self):
        for r, s, word, at in ((0, 0, "number", 0), (3, 0, "number", 1), (True, 2, "number", 0), (3, True, "number", 1),
                               (None, -1, "number", 0), ("3", 2, "number", 0), (3, -2, "number", 1),
                               ((3,), 2, "number", 0), (3, [2], "number", 1), (6, 4, "common", 2), (6, 9, "common", 3),
                               (12, 30, "common", 6), (2, 2, "common", 2), (1, 1, "power", 0), (3, 1, "power", 1),
                               (5, 7, "power", 0), (2, 3, "power", 0), (3, 5, "power", 1), (1, 2, "power", 0),
                               (10 ** 59, 10 ** 58, "common", 10 ** 58), (3 * 10 ** 40 + 6, 7, "power", 1),
                               (10 ** 40, 7, "power", 0)):
            self.follow(DIHEDRAL, "split", ("torn", A, B, r, s), faulty(word, at))
        for r, s in ((3, 2), (9, 2), (3, 4), (15, 14), (3 ** 100, 2 ** 150), (3 * 10 ** 40 + 3, 2)):
            self.follow(DIHEDRAL, "split", ("torn", A, B, r, s), "True")
        self.follow(DIHEDRAL, "split", ("torn", B, A, 2, 3), "True")
        self.follow(DIHEDRAL, "split", ("torn", A, A, 3, 2), faulty("power", 1))
        self.follow(DIHEDRAL, "split", ("torn", A, ONE, 3, 1), faulty("apart", -1))
        self.follow(DIHEDRAL, "split", ("torn", ONE, B, 1, 2), faulty("apart", -1))
        self.follow(DIHEDRAL, "split", ("torn", ONE, ONE, 1, 1), faulty("apart", -1))
        self.follow((("ring", 6),), "split", ("torn", (2,), (3,), 3, 2), faulty("apart", -1))
        self.follow(KNOT, "split", ("torn", ((1, 0, 0),), ((0, 1, 0),), 2, 2), faulty("common", 2))
        self.follow(KNOT, "split", ("torn", ((1, 0, 0),), ((0, 1, 0),), 2, 1), faulty("power", 1))

    def test_apart(self):
        for rule in KIND_RULES:
            found = all_of(rule)[::3]
            for a, b in product(found[:6], found[-6:]):
                for kind in ("cyclic", "commute"):
                    self.follow(rule, kind, ("apart", a, b), right_outcome(rule, kind, ("apart", a, b)))
        self.follow(DIHEDRAL, "commute", ("apart", A, A), faulty("apart", -1))
        self.follow(DIHEDRAL, "cyclic", ("apart", A, ((2, 0),)), faulty("apart", -1))

    def test_all_twins_of_few_elements(self):
        for rule in (FOURFOLD, KNOT, DIHEDRAL, (("ring", 6),), (("power", 3, 2),), (("ring", 2), ("ring", 4))):
            for a, b, prime in product(all_of(rule), all_of(rule), (2, 3, 5)):
                thing = ("twins", a, b, prime)
                self.assertEqual(outcome(lets_shown, rule, "cyclic", thing), right_outcome(rule, "cyclic", thing))

    def test_all_torn_of_few_elements(self):
        for rule in (KNOT, DIHEDRAL, (("ring", 6),), (FOUR,)):
            orders = {element: plain_order(rule, element) for element in all_of(rule)}
            for a, b in product(orders, orders):
                thing = ("torn", a, b, orders[a], orders[b])
                self.assertEqual(outcome(lets_shown, rule, "split", thing), right_outcome(rule, "split", thing))

    def test_great_primes(self):
        rule = (("ring", 9973), ("ring", 9973))
        self.assertIs(lets_shown(rule, "cyclic", ("twins", (1, 0), (0, 1), 9973)), True)
        self.assertIs(lets_shown(rule, "cyclic", ("twins", (1, 5), (1, 4), 9973)), True)
        for k in (0, 1, 2, 5000, 9972):
            thing = ("twins", (1, 5), (k, 5 * k % 9973), 9973)
            self.assertEqual(outcome(lets_shown, rule, "cyclic", thing), faulty("among", k))


class Bent(unittest.TestCase):
    def test_what_is_shown_with_one_change(self):
        many = 0
        for rule in BENT_RULES:
            for kind in KINDS:
                shown = shown_against(rule, kind)
                for thing in bent(shown) if shown is not None else ():
                    right = right_outcome(rule, kind, thing)
                    self.assertEqual(outcome(lets_shown, rule, kind, thing), right, (rule, kind, thing))
                    many += right != "True"
        self.assertGreater(many, 500)

    def test_what_is_accepted_is_true(self):
        for rule in KIND_RULES:
            kinds = plain_kinds(rule)
            for kind in kinds:
                for other in KIND_RULES:
                    shown = shown_against(other, kind)
                    self.assertNotEqual(outcome(lets_shown, rule, kind, shown), "True")


class Any(unittest.TestCase):
    def test_parameters(self):
        shown = ("apart", A, B)
        for thing in any_values():
            self.assertEqual(outcome(lets_shown, [S3], thing, shown), refused("rule"))
            if thing not in KINDS:
                self.assertEqual(outcome(lets_shown, S3, thing, shown), refused("kind"))
                self.assertEqual(outcome(lets_shown, S3, thing, thing), refused("kind"))
        self.assertIs(lets_shown(thing=shown, kind="commute", rule=S3), True)

    def test_each_part_any_value(self):
        for kind, shown in (("commute", ("apart", A, B)), ("split", ("torn", A, B, 3, 2)), ("cyclic", ("twins", B, A, 2))):
            for at in range(len(shown)):
                for thing in any_values():
                    tried = shown[:at] + (thing,) + shown[at + 1:]
                    self.assertEqual(outcome(lets_shown, S3, kind, tried), right_outcome(S3, kind, tried))

    def test_what_is_handed_in_stays(self):
        for rule in [*LARGE_RULES, MIXED]:
            for kind in KINDS:
                shown = shown_against(rule, kind)
                before = written((rule, shown))
                outcome(lets_shown, rule, kind, shown)
                self.assertEqual(written((rule, shown)), before)
        parts = ["apart", [A], [B]]
        outcome(lets_shown, S3, "commute", parts)
        outcome(lets_shown, S3, "commute", ("apart", parts, parts))
        self.assertEqual(parts, ["apart", [A], [B]])
