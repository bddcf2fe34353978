"""Rules that are otherwise: [8] (F4), [39]."""

import unittest
from itertools import product

from forcedtables.forced import acts_at, all_commute, all_cyclic, all_split
from forcedtables.judging import does_commute, does_split, is_cyclic, shown_against
from forcedtables.otherwise import not_commuting, not_cyclic, not_split, piece_of_act
from forcedtables.rulechecker import is_piece, is_rule, lets_rule
from forcedtables.shownchecker import lets_shown
from tests.kindsamples import COUNTS, KINDS, TWELVE, plain_forces, plain_kinds
from tests.samples import PRIMES, SIX, any_values, is_real, outcome, plain_moved, plain_value, refused

MADE = {"cyclic": not_cyclic, "commute": not_commuting, "split": not_split}
JUDGES = {"cyclic": is_cyclic, "commute": does_commute, "split": does_split}
FORCED = {"cyclic": all_cyclic, "commute": all_commute, "split": all_split}


def turned(prime, rows, times):
    """The columns with a single 1, so many times turned by the table."""
    size = len(rows)
    return [plain_moved(rows, tuple(int(row == column) for row in range(size)), times, prime)
            for column in range(size)]


class Pieces(unittest.TestCase):
    def follow(self, count, prime, other):
        """See that a piece is as [39] says, read once more."""
        size = acts_at(count, prime, other)
        piece = piece_of_act(count, prime, other)
        if size is None:
            self.assertIsNone(piece)
            return
        self.assertTrue(is_piece(piece), piece)
        self.assertEqual(lets_rule((piece,)), prime * other ** size)
        if size == 1:
            word, m, d, u = piece
            self.assertEqual([word, m, d], ["act", other, prime])
            self.assertNotEqual(u, 1)
            self.assertEqual(u ** prime % other if prime < 99 else pow(u, prime, other), 1)
            return
        word, p, rows, q = piece
        self.assertEqual([word, p, q, len(rows)], ["turn", other, prime, size])
        self.assertNotEqual(turned(p, rows, 1), turned(p, rows, 0))
        if prime < 300:
            self.assertEqual(turned(p, rows, prime), turned(p, rows, 0))

    def test_all_pairs_of_all_counts(self):
        for count in COUNTS:
            for (prime, _), (other, _) in product(count, count):
                if prime != other:
                    self.follow(count, prime, other)

    def test_all_small_primes_and_powers(self):
        for prime, other in product(PRIMES[:25], PRIMES[:12]):
            if prime != other:
                for power in range(1, 7):
                    self.follow(tuple(sorted([(prime, 1), (other, power)])), prime, other)

    def test_great_primes(self):
        for prime, other, power in ((3, 9973, 1), (277, 9973, 1), (2, 9973, 6), (211, 5923, 6), (13, 3761, 6),
                                    (7, 6599, 6), (19, 9907, 6), (4987, 9973, 2), (9973, 2, 6), (5, 9973, 4),
                                    (9811, 9949, 3), (31, 9887, 5)):
            self.follow(tuple(sorted([(prime, 1), (other, power)])), prime, other)
        self.assertEqual(acts_at(((4987, 1), (9973, 2)), 4987, 9973), 2)

    def test_the_power_may_be_greater_than_what_acts(self):
        self.assertEqual(piece_of_act(((2, 3), (3, 1)), 3, 2)[::3], ("turn", 3))
        self.assertEqual(len(piece_of_act(((2, 6), (3, 6)), 3, 2)[2]), 2)
        self.assertEqual(piece_of_act(((2, 6), (3, 6)), 2, 3), ("act", 3, 2, 2))

    def test_any_values(self):
        for thing in any_values():
            fits = is_real(thing) and thing in (2, 3)
            for call in (piece_of_act, acts_at):
                if not fits:
                    self.assertEqual(outcome(call, SIX, thing, thing), refused("prime"))
                    self.assertEqual(outcome(call, SIX, 2, thing), refused("other"))
            self.assertEqual(outcome(piece_of_act, [SIX], thing, thing), refused("count"))
        self.assertEqual(outcome(piece_of_act, SIX, 2, 2), refused("other"))
        self.assertEqual(outcome(piece_of_act, SIX, 5, 2), refused("prime"))
        self.assertEqual(outcome(piece_of_act, SIX, 2, 5), refused("other"))
        self.assertEqual(piece_of_act(other=2, prime=3, count=TWELVE)[::3], ("turn", 3))


class Rules(unittest.TestCase):
    def test_order_pieces_and_kind(self):
        for count in COUNTS:
            for kind in KINDS:
                rule = MADE[kind](count)
                if plain_forces(count, kind):
                    self.assertIsNone(rule, (count, kind))
                    continue
                self.assertTrue(is_rule(rule), rule)
                self.assertLessEqual(len(rule), 2)
                self.assertEqual(lets_rule(rule), plain_value(count))
                self.assertIs(JUDGES[kind](rule), False, (count, rule))
                self.assertIs(lets_shown(rule, kind, shown_against(rule, kind)), True)

    def test_all_elements_of_few(self):
        for count in COUNTS:
            if plain_value(count) <= 60:
                for kind in KINDS:
                    rule = MADE[kind](count)
                    if rule is not None:
                        self.assertNotIn(kind, plain_kinds(rule), rule)

    def test_none_exactly_if_it_is_forced(self):
        for count in COUNTS:
            for kind in KINDS:
                self.assertIs(MADE[kind](count) is None, FORCED[kind](count))

    def test_single_faults(self):
        # Each of these counts has just one reason: a square, a cube, an act, or a turn.
        for count, kinds in {((5, 2), (7, 1)): KINDS[:1], ((5, 3), (7, 1)): KINDS[:2], ((3, 1), (7, 1)): KINDS,
                             ((3, 2), (5, 1)): KINDS[:1], ((3, 3), (5, 1)): KINDS[:2], ((3, 4), (5, 1)): KINDS,
                             ((2, 2),): KINDS[:1],
                             ((2, 3),): KINDS[:2], ((9973, 6),): KINDS[:2], ((2, 1), (9973, 1)): KINDS,
                             (): (), ((9973, 1),): (), ((3, 1), (5, 1)): ()}.items():
            self.assertEqual(tuple(kind for kind in KINDS if MADE[kind](count) is not None), kinds, count)

    def test_any_values(self):
        for call in MADE.values():
            for thing in ([SIX], [(2, 1)], ((4, 1),), ((2, 7),), ((2, True),), ((3, 1), (2, 1)), 6, None, True, "2^1"):
                self.assertEqual(outcome(call, thing), refused("count"))
            self.assertEqual(call(count=SIX), call(SIX))
