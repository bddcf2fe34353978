"""Papers on what a count forces, and their checker: [44], [45]."""

import unittest
from itertools import permutations

from forcedtables.forcedchecker import lets_forced
from forcedtables.forcedpapers import forced_paper
from forcedtables.judging import shown_against
from forcedtables.otherwise import not_commuting, not_cyclic, not_split
from forcedtables.rulechecker import is_rule, lets_rule
from forcedtables.shownchecker import lets_shown
from tests.kindsamples import COUNTS, DIHEDRAL, EIGHT, FORTYFIVE, KINDS, TWELVE, plain_forces
from tests.samples import (FIFTEEN, SIX, THIRTY, any_values, bent, faulty, is_real, is_real_count, outcome, plain_value,
                           refused, written)

A, B = ((1, 0),), ((0, 1),)
TORN = ("torn", A, B, 3, 2)
MOST = {"cyclic": 1, "commute": 2, "split": 6}
TRIED = [(), ((2, 1),), ((3, 2),), EIGHT, SIX, FIFTEEN, TWELVE, FORTYFIVE, THIRTY, ((5, 1), (7, 2), (11, 1)),
         ((3, 1), (5, 1), (17, 1)), ((2, 2), (5, 2)), ((2, 1), (3, 2))]


def plain_rows(count):
    """The rows that a paper has to have, by [44]."""
    powers = dict(count)
    return tuple(tuple(other ** i % prime for i in range(1, powers[other] + 1))
                 for prime, other in sorted(permutations(powers, 2)))


def plain_row_faults(count, rows):
    """What is wrong with rows, if there are as many as there have to be, in order."""
    for k, (row, right) in enumerate(zip(rows, plain_rows(count))):
        if type(row) is not tuple or len(row) != len(right) or not all(is_real(n) and n >= 0 for n in row):
            yield faulty("row", k)
            return
        for j, number in enumerate(row):
            if number != right[j]:
                yield faulty("number", (k, j))
            if number == 1:
                yield faulty("one", (k, j))


def right_outcome(count, kind, thing):
    """What the checker has to say of any value, by [44] read once more."""
    shape = len(thing) if type(thing) is tuple else 0
    if shape == 2 and type(thing[0]) is str and thing[0] == "all" and type(thing[1]) is tuple:
        for k, (_, power) in enumerate(count):
            if power > MOST[kind]:
                return faulty("excess", k)
        if len(thing[1]) != len(count) * (len(count) - 1):
            return faulty("many", -1)
        return next(plain_row_faults(count, thing[1]), "True")
    if shape != 3 or type(thing[0]) is not str or thing[0] != "otherwise":
        return faulty("shape", -1)
    if not is_rule(thing[1]) or lets_rule(thing[1]) != plain_value(count):
        return faulty("rule", -1)
    found = outcome(lets_shown, thing[1], kind, thing[2])
    return "False" if found == "True" else found


class Papers(unittest.TestCase):
    def test_all_counts(self):
        for count in COUNTS:
            for kind in KINDS:
                paper = forced_paper(count, kind)
                forced = plain_forces(count, kind)
                self.assertIs(lets_forced(count, kind, paper), forced, (count, kind))
                self.assertEqual(right_outcome(count, kind, paper), str(forced))
                if forced:
                    self.assertEqual(written(paper), written(("all", plain_rows(count))))
                else:
                    self.assertEqual([len(paper), paper[0]], [3, "otherwise"])

    def test_just_one_of_both_kinds_is_accepted(self):
        for count in COUNTS:
            for kind, made in zip(KINDS, (not_cyclic, not_commuting, not_split)):
                rule = made(count)
                found = outcome(lets_forced, count, kind, ("all", plain_rows(count)))
                self.assertIs(found == "True", rule is None, (count, kind))
                if rule is not None:
                    paper = ("otherwise", rule, shown_against(rule, kind))
                    self.assertIs(lets_forced(count, kind, paper), False)

    def test_one_prime(self):
        for prime in (2, 3, 9973):
            for kind in KINDS:
                self.assertEqual(forced_paper(((prime, 1),), kind), ("all", ()))
                self.assertEqual(forced_paper((), kind), ("all", ()))

    def test_any_values(self):
        for thing in any_values():
            if thing not in KINDS:
                self.assertEqual(outcome(forced_paper, SIX, thing), refused("kind"))
            if not is_real_count(thing):
                self.assertEqual(outcome(forced_paper, thing, thing), refused("count"))
        self.assertEqual(forced_paper(kind="commute", count=FORTYFIVE), ("all", ((2,), (3, 4))))


class Entries(unittest.TestCase):
    def follow(self, count, kind, thing, right):
        """See that the checker says so, and that [44] read once more does."""
        self.assertEqual(outcome(lets_forced, count, kind, thing), right, (count, kind, thing))
        self.assertEqual(right_outcome(count, kind, thing), right, (count, kind, thing))

    def test_shape(self):
        for count in (SIX, FIFTEEN, ()):
            for kind in KINDS:
                for thing in ((), ("all",), ("all", []), ("all", None), ("all", [(2,), (3,)]), ["all", ()],
                              ("all", (), ()), ("All", ()), (None, ()), (["all"], ()), ("otherwise",),
                              ("otherwise", DIHEDRAL), ("otherwise", DIHEDRAL, TORN, TORN), ("otherwise", ()),
                              ["otherwise", DIHEDRAL, TORN], ("Otherwise", DIHEDRAL, TORN), (True, DIHEDRAL, TORN),
                              (("otherwise",), DIHEDRAL, TORN), ("all", DIHEDRAL, TORN), "all", "otherwise", None, True,
                              0, ((2,), (3,)), ("", ()), ("all", "rows")):
                    self.follow(count, kind, thing, faulty("shape", -1))
        for thing in any_values():
            self.follow(SIX, "split", thing, faulty("shape", -1))

    def test_excess(self):
        for count, kind, at in ((FORTYFIVE, "cyclic", 0), (((3, 1), (5, 2)), "cyclic", 1), (EIGHT, "cyclic", 0),
                                (EIGHT, "commute", 0), (((3, 2), (5, 3)), "commute", 1), (((3, 2), (5, 3)), "cyclic", 0),
                                (((3, 1), (5, 1), (7, 6)), "commute", 2), (((2, 2),), "cyclic", 0)):
            for rows in ((), plain_rows(count), ((1,),), (None, None)):
                self.follow(count, kind, ("all", rows), faulty("excess", at))
        self.follow(EIGHT, "split", ("all", ()), "True")
        self.follow(((3, 2),), "commute", ("all", ()), "True")

    def test_many(self):
        for count, rows in ((FIFTEEN, ()), (FIFTEEN, ((2,),)), (FIFTEEN, ((2,), (3,), (2,))), ((), ((),)),
                            (((3, 1),), ((2,),)), (FIFTEEN, ((1,), None, None)), (THIRTY, plain_rows(FIFTEEN))):
            for kind in KINDS:
                self.follow(count, kind, ("all", rows), faulty("many", -1))

    def test_rows(self):
        for row in (None, [2], 2, (), (2, 2), (True,), (None,), ("2",), (-1,), ((2,),), "2", (2, None), (False,)):
            for kind in KINDS:
                self.follow(FIFTEEN, kind, ("all", (row, (3,))), faulty("row", 0))
                self.follow(FIFTEEN, kind, ("all", (row, row)), faulty("row", 0))
                self.follow(FIFTEEN, kind, ("all", ((2,), row)), faulty("row", 1))
                self.follow(FIFTEEN, kind, ("all", ((0,), row)), faulty("number", (0, 0)))
        self.follow(FORTYFIVE, "split", ("all", ((2,), (3,))), faulty("row", 1))
        self.follow(FORTYFIVE, "split", ("all", ((2,), (3, True))), faulty("row", 1))
        self.follow(FORTYFIVE, "split", ("all", ((2,), (3, 4, 2))), faulty("row", 1))

    def test_numbers(self):
        for rows, word, at in ((((1,), (3,)), "number", (0, 0)), (((5,), (3,)), "number", (0, 0)),
                               (((2,), (8,)), "number", (1, 0)), (((2,), (1,)), "number", (1, 0)),
                               (((0,), (0,)), "number", (0, 0)), (((2 + 3 * 10 ** 50,), (3,)), "number", (0, 0))):
            for kind in KINDS:
                self.follow(FIFTEEN, kind, ("all", rows), faulty(word, at))
        self.follow(FORTYFIVE, "split", ("all", ((2,), (3, 1))), faulty("number", (1, 1)))
        self.follow(FORTYFIVE, "split", ("all", ((2,), (1, 1))), faulty("number", (1, 0)))
        self.follow(FORTYFIVE, "commute", ("all", ((2,), (3, 9))), faulty("number", (1, 1)))
        self.follow(FORTYFIVE, "commute", ("all", ((2,), (3, 4))), "True")

    def test_one(self):
        self.follow(SIX, "cyclic", ("all", ((1,), (2,))), faulty("one", (0, 0)))
        self.follow(SIX, "split", ("all", ((1,), (5,))), faulty("one", (0, 0)))
        self.follow(SIX, "split", ("all", ((1,), ())), faulty("one", (0, 0)))
        self.follow(TWELVE, "split", ("all", ((1,), (2, 1))), faulty("one", (0, 0)))
        self.follow(((2, 3), (7, 1)), "split", ("all", ((1,), (2, 4, 1))), faulty("one", (0, 0)))
        self.follow(((5, 3), (31, 1)), "split", ("all", ((1,), (5, 25, 1))), faulty("one", (0, 0)))
        self.follow(((3, 3), (13, 1)), "split", ("all", ((1,), (3, 9, 1))), faulty("one", (0, 0)))
        self.follow(((3, 4), (5, 1)), "split", ("all", ((2,), (3, 4, 2, 1))), faulty("one", (1, 3)))
        self.follow(((3, 4), (5, 1)), "split", ("all", ((2,), (3, 4, 2, 6))), faulty("number", (1, 3)))
        # A one that stands rightly comes ahead of what is wrong behind it.
        self.follow(((5, 4), (13, 1)), "split", ("all", ((3,), (5, 12, 8, 1))), faulty("one", (1, 3)))
        self.follow(((5, 6), (13, 1)), "split", ("all", ((3,), (5, 12, 8, 1, 0, 0))), faulty("one", (1, 3)))

    def test_rules(self):
        for rule in (None, [], (), DIHEDRAL[0], list(DIHEDRAL), (("act", 7, 3, 3),), (("ring", 5),), (("ring", 7),),
                     (("ring", 6), ("ring", 2)), (("ring", True),), "ring 6"):
            for kind in KINDS:
                self.follow(SIX, kind, ("otherwise", rule, TORN), faulty("rule", -1))
                self.follow(SIX, kind, ("otherwise", rule, None), faulty("rule", -1))
        self.follow(FIFTEEN, "split", ("otherwise", DIHEDRAL, TORN), faulty("rule", -1))
        self.follow((), "split", ("otherwise", DIHEDRAL, TORN), faulty("rule", -1))

    def test_shown(self):
        for shown, fault in ((None, ("shape", -1)), (("apart", A, B), ("shape", -1)), (list(TORN), ("shape", -1)),
                             (("torn", (1, 0), B, 3, 2), ("first", -1)), (("torn", A, A[0], 3, 2), ("second", -1)),
                             (("torn", A, B, 0, 2), ("number", 0)), (("torn", A, B, 3, True), ("number", 1)),
                             (("torn", A, B, 6, 4), ("common", 2)), (("torn", A, B, 2, 3), ("power", 0)),
                             (("torn", A, B, 3, 1), ("power", 1)), (("torn", A, ((0, 0),), 3, 1), ("apart", -1))):
            self.follow(SIX, "split", ("otherwise", DIHEDRAL, shown), faulty(*fault))
        ring = (("ring", 6),)
        self.follow(SIX, "cyclic", ("otherwise", ring, ("twins", (2,), (4,), 3)), faulty("among", 2))
        self.follow(SIX, "cyclic", ("otherwise", ring, ("twins", (2,), (4,), 6)), faulty("prime", -1))
        self.follow(SIX, "cyclic", ("otherwise", ring, ("twins", (0,), (3,), 2)), faulty("one", -1))
        self.follow(SIX, "commute", ("otherwise", ring, ("apart", (1,), (2,))), faulty("apart", -1))
        self.follow(SIX, "split", ("otherwise", DIHEDRAL, TORN), "False")
        self.follow(SIX, "commute", ("otherwise", DIHEDRAL, ("apart", A, B)), "False")
        self.follow(SIX, "cyclic", ("otherwise", (("turn", 3, ((2,),), 2),),
                                    ("twins", (((0,), 1),), (((1,), 1),), 2)), "False")
        # A paper of any rule of the order counts, also one of more pieces.
        many = (("ring", 1), ("ring", 1), *DIHEDRAL, ("act", 1, 1, 0))
        self.follow(SIX, "commute", ("otherwise", many, ("apart", (0, 0, (1, 0), (0, 0)), (0, 0, (0, 1), (0, 0)))),
                    "False")


class Bent(unittest.TestCase):
    def test_papers_with_one_change(self):
        many = 0
        for count in TRIED:
            for kind in KINDS:
                for paper in bent(forced_paper(count, kind)):
                    right = right_outcome(count, kind, paper)
                    self.assertEqual(outcome(lets_forced, count, kind, paper), right, (count, kind, paper))
                    # What is accepted is true.
                    self.assertNotEqual(right, str(not plain_forces(count, kind)))
                    many += right.startswith("InvalidPaper")
        self.assertGreater(many, 2000)

    def test_papers_with_two_changes(self):
        for count, kind in ((FORTYFIVE, "commute"), (FIFTEEN, "cyclic"), (((3, 2),), "cyclic")):
            for once in bent(forced_paper(count, kind)):
                for paper in list(bent(once))[::3]:
                    right = right_outcome(count, kind, paper)
                    self.assertEqual(outcome(lets_forced, count, kind, paper), right, (count, kind, paper))

    def test_papers_of_other_counts_and_kinds(self):
        for count in TRIED:
            for other in TRIED:
                for kind in KINDS:
                    for late in KINDS:
                        paper = forced_paper(other, late)
                        right = right_outcome(count, kind, paper)
                        self.assertEqual(outcome(lets_forced, count, kind, paper), right)
                        self.assertNotEqual(right, str(not plain_forces(count, kind)))


class Any(unittest.TestCase):
    def test_parameters(self):
        paper = forced_paper(SIX, "cyclic")
        for thing in any_values():
            if not is_real_count(thing):
                self.assertEqual(outcome(lets_forced, thing, thing, paper), refused("count"))
            if thing not in KINDS:
                self.assertEqual(outcome(lets_forced, SIX, thing, thing), refused("kind"))
        self.assertIs(lets_forced(thing=paper, kind="cyclic", count=SIX), False)

    def test_what_is_handed_in_stays(self):
        for paper in (["all", [[2], [3]]], ("all", ([2], [3])), ("otherwise", [["ring", 6]], []),
                      ("otherwise", DIHEDRAL, ["torn", [A], B])):
            before = written(paper)
            outcome(lets_forced, FIFTEEN, "split", paper)
            outcome(lets_forced, SIX, "split", paper)
            self.assertEqual(written(paper), before)
