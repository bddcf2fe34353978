"""Rules that are judged: [40] to [42]."""

import unittest
from itertools import combinations
from math import gcd

from forcedtables.forced import kinds_forced
from forcedtables.judging import does_commute, does_split, is_cyclic, shown_against
from forcedtables.rulechecker import lets_rule
from forcedtables.shownchecker import lets_shown
from tests.kindsamples import KIND_RULES, KINDS, LARGE_RULES, plain_kinds, plain_shown_fault
from tests.samples import (FOUR, MERSENNE, S3, SIXTY_DIGITS, all_of, any_values, is_real_count, outcome, plain_count,
                           refused, written)

JUDGES = {"cyclic": is_cyclic, "commute": does_commute, "split": does_split}

# Of which kinds great pieces are, by hand: that they are none is a matter of a single part of them.
GREAT_PIECES = {
    ("ring", 9973 * 9967): KINDS, ("power", 9973, 1): KINDS, ("power", 9973, 2): KINDS[1:],
    ("power", 9973, 6): KINDS[1:], ("knot", 9973): KINDS[2:], ("turn", 9973, ((9972,),), 2): (),
    ("act", 9973, 9972, 1): KINDS, ("act", 9973, 9972, 9972): (), ("act", 1, 9973, 0): KINDS,
    ("act", 2 ** 6, 3 ** 6, 1): KINDS, ("act", 3 ** 6, 2 ** 6, 3 ** 6 - 1): (), ("act", 91, 3, 16): (),
    ("act", 91, 9, 29): (), ("act", 9973 * 9967, 4, 1): KINDS,
}


def kinds_of(rule):
    """The kinds of which the judges say that the rule is."""
    return tuple(kind for kind in KINDS if JUDGES[kind](rule))


class Judges(unittest.TestCase):
    def test_rules_of_few_elements(self):
        for rule in KIND_RULES:
            right = plain_kinds(rule)
            self.assertEqual(kinds_of(rule), right, rule)
            for kind in KINDS:
                self.assertIs(JUDGES[kind](rule), kind in right)
                self.assertIs(JUDGES[kind](rule=rule), kind in right)

    def test_rules_of_two_pieces(self):
        pieces = [rule[0] for rule in KIND_RULES if len(rule) == 1 and lets_rule(rule) <= 9]
        for one in pieces:
            for other in pieces:
                self.assertEqual(kinds_of((one, other)), plain_kinds((one, other)), (one, other))

    def test_great_pieces(self):
        for piece, kinds in GREAT_PIECES.items():
            self.assertEqual(kinds_of((piece,)), kinds, piece)
            self.assertEqual(kinds_of((piece, ("ring", 1))), kinds)
            self.assertEqual(kinds_of((("ring", 5 * 11), piece)), kinds)

    def test_numbers_that_are_not_parted_into_primes(self):
        self.assertEqual(kinds_of((("ring", SIXTY_DIGITS),)), KINDS)
        self.assertEqual(kinds_of((("act", MERSENNE, 199, 2),)), ())
        self.assertEqual(kinds_of((("act", MERSENNE, 199, 1),)), KINDS)
        self.assertEqual(kinds_of((("ring", MERSENNE), ("ring", 10 ** 59))), KINDS)
        self.assertEqual(kinds_of((("ring", MERSENNE), ("ring", MERSENNE))), KINDS[1:])

    def test_what_is_no_rule(self):
        for judge in JUDGES.values():
            for thing in ([S3], (), S3[0], (("act", 7, 3, 3),), (("ring", True),), (["ring", 2],), None, True, 2):
                self.assertEqual(outcome(judge, thing), refused("rule"))


class Shown(unittest.TestCase):
    def test_rules_of_few_elements(self):
        for rule in KIND_RULES:
            right = plain_kinds(rule)
            for kind in KINDS:
                shown = shown_against(rule, kind)
                if kind in right:
                    self.assertIsNone(shown)
                else:
                    self.assertIsNone(plain_shown_fault(rule, kind, shown), (rule, kind, shown))
                    self.assertIs(lets_shown(rule, kind, shown), True)

    def test_great_rules(self):
        for rule in LARGE_RULES + [(piece, ("ring", 5)) for piece in GREAT_PIECES]:
            for kind in KINDS:
                shown = shown_against(rule, kind)
                self.assertIs(shown is None, JUDGES[kind](rule))
                if shown is not None:
                    self.assertIs(lets_shown(rule, kind, shown), True, (rule, kind))

    def test_twins_from_two_pieces(self):
        for rule in ((("ring", 9973 * 2), ("ring", 3), ("ring", 9973 * 5), ("ring", 7)), (("ring", 6), ("ring", 35),
                     ("power", 5, 1)), (("act", 4, 9, 1), ("ring", 3)), (("act", 4, 9, 1), ("ring", 2)),
                     (("act", 4, 9, 1), ("act", 9, 4, 1)), (("power", 7, 2), ("ring", 2))):
            shown = shown_against(rule, "cyclic")
            self.assertEqual(shown[0], "twins")
            self.assertIs(lets_shown(rule, "cyclic", shown), True)

    def test_two_elements_that_show_more(self):
        # What shows that a rule does not split has two elements that show that it does not commute.
        for rule in KIND_RULES + LARGE_RULES:
            torn = shown_against(rule, "split")
            if torn is not None:
                self.assertIs(lets_shown(rule, "commute", ("apart", torn[1], torn[2])), True)
                self.assertIs(lets_shown(rule, "cyclic", ("apart", torn[1], torn[2])), True)

    def test_any_values(self):
        for thing in any_values():
            if thing not in KINDS:
                self.assertEqual(outcome(shown_against, S3, thing), refused("kind"))
            self.assertEqual(outcome(shown_against, [S3], thing), refused("rule"))
        for thing in ("Cyclic", "twins", "apart", "off", ("cyclic",), ["cyclic"], True):
            self.assertEqual(outcome(shown_against, S3, thing), refused("kind"))
        self.assertEqual(shown_against(kind="split", rule=(("knot", 2),)), None)


class Consequences(unittest.TestCase):
    def test_later_kinds(self):
        for rule in KIND_RULES + LARGE_RULES:
            found = kinds_of(rule)
            self.assertEqual(found, KINDS[len(KINDS) - len(found):])

    def test_piece_by_piece(self):
        for rule in KIND_RULES + LARGE_RULES:
            alone = [(piece,) for piece in rule]
            self.assertIs(does_commute(rule), all(does_commute(piece) for piece in alone))
            self.assertIs(does_split(rule), all(does_split(piece) for piece in alone))
            free = all(gcd(lets_rule(one), lets_rule(two)) == 1 for one, two in combinations(alone, 2))
            self.assertIs(is_cyclic(rule), free and all(is_cyclic(piece) for piece in alone))

    def test_what_the_count_of_the_order_forces(self):
        many = 0
        for rule in KIND_RULES + LARGE_RULES:
            count = plain_count(lets_rule(rule))
            if count is not None:
                self.assertTrue(is_real_count(count))
                self.assertLessEqual(set(kinds_forced(count)), set(kinds_of(rule)))
                many += len(kinds_forced(count))
        self.assertGreater(many, 20)

    def test_results_are_made_of_tuples_and_integers(self):
        self.assertEqual(written(shown_against((("ring", 2), ("ring", 2)), "cyclic")),
                         written(("twins", (1, 0), (0, 1), 2)))
        self.assertIn(shown_against((FOUR,), "split")[1], all_of((FOUR,)))
