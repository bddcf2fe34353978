"""Pieces, rules and their checker: [4], [5], [13], [14]."""

import unittest
from itertools import product
from math import gcd

from forcedtables.rulechecker import is_piece, is_rule, lets_rule
from tests.samples import FOUR, MERSENNE, PRIME_TABLE, SIXTY_DIGITS, any_values, faulty, outcome, written


def one(size):
    """The table that changes nothing."""
    return tuple(tuple(int(row == column) for column in range(size)) for row in range(size))


def shift(size):
    """The table that moves each place on by one: its power by the size is the one above."""
    return tuple(tuple(int((row + 1) % size == column) for column in range(size)) for row in range(size))


def multiplied(left, right, prime):
    """The product of two tables modulo the prime."""
    size = range(len(left))
    return tuple(tuple(sum(left[i][k] * right[k][j] for k in size) % prime for j in size) for i in size)


def plain_power(table, power, prime):
    """The power of a table, by multiplying so often."""
    result = one(len(table))
    for _ in range(power):
        result = multiplied(result, table, prime)
    return result


# Pieces that are right, each with how many elements it has.
PIECES = [
    (("ring", 1), 1), (("ring", 2), 2), (("ring", 6), 6), (("ring", 10007), 10007),
    (("ring", SIXTY_DIGITS), SIXTY_DIGITS),
    (("power", 2, 1), 2), (("power", 2, 6), 64), (("power", 9973, 1), 9973), (("power", 9973, 6), 9973 ** 6),
    (("power", 5, 3), 125),
    (("knot", 2), 8), (("knot", 3), 27), (("knot", 9973), 9973 ** 3),
    (FOUR, 12), (("turn", 7, ((4,),), 3), 21), (("turn", 7, ((2,),), 3), 21), (("turn", 3, ((2,),), 2), 6),
    (("turn", 9973, ((9972,),), 2), 19946), (("turn", 3, shift(2), 2), 18), (("turn", 2, shift(3), 3), 24),
    (("turn", 5, ((1, 0), (0, 4)), 2), 50), (("turn", 2, shift(5), 5), 160), (("turn", 3, shift(5), 5), 1215),
    (("turn", 3, ((0, 1, 0, 0), (1, 0, 0, 0), (0, 0, 0, 1), (0, 0, 1, 0)), 2), 162),
    (("turn", 5, tuple(row[:3] + (0, 0, 0) for row in shift(3)) + tuple((0, 0, 0) + row for row in one(3)), 3), 46875),
    (("turn", 3, one(6)[:5] + ((0, 0, 0, 0, 0, 2),), 2), 1458),
    (("act", 1, 1, 0), 1), (("act", 1, 6, 0), 6), (("act", 1, SIXTY_DIGITS, 0), SIXTY_DIGITS),
    (("act", SIXTY_DIGITS, 1, 1), SIXTY_DIGITS), (("act", 6, 1, 1), 6), (("act", 2, 1, 1), 2), (("act", 7, 3, 2), 21),
    (("act", 7, 3, 4), 21), (("act", 7, 3, 1), 21), (("act", 91, 3, 16), 273), (("act", 15, 2, 14), 30),
    (("act", 5, 6, 4), 30), (("act", 4, 9, 1), 36), (("act", 9, 2, 8), 18), (("act", 3, 4, 2), 12),
    (("act", MERSENNE, 199, 2), MERSENNE * 199), (("act", MERSENNE, 199 * 10 ** 57, 2), MERSENNE * 199 * 10 ** 57),
    (("act", MERSENNE, 2, MERSENNE - 1), MERSENNE * 2),
]

# Values that are no pieces, by the word and the place of their first fault; None is the piece itself.
FAULTS = {
    ("piece", None): [
        (), (2,), ("ring",), ("ring", 2, 2), ("power", 2), ("power", 2, 1, 1), ("knot",), ("knot", 2, 2),
        ("turn", 2, ((0, 1), (1, 1))), FOUR + (3,), ("act", 7, 3), ("act", 7, 3, 2, 1), ["ring", 2], ["knot", 2],
        list(FOUR), ["act", 7, 3, 2], ("cube", 2), ("Ring", 2), ("", 2), ("rin", 2), (["ring"], 2), (("ring",), 2),
        ([], 2), (None, 2), (True, 2), (2, "ring"), "ring", "ri", None, True, 2, [], ((), ()), (((1, [2]),), 2)],
    ("number", 1): [
        ("ring", 0), ("ring", -1), ("ring", True), ("ring", "1"), ("ring", None), ("ring", (1,)), ("ring", [1]),
        ("power", 4, 1), ("power", 1, 1), ("power", True, 1), ("power", 10007, 1), ("power", "2", 1), ("power", [2], 1),
        ("knot", 4), ("knot", 1), ("knot", 0), ("knot", -3), ("knot", True), ("knot", 10007), ("knot", None),
        ("turn", 4, ((0, 1), (1, 1)), 3), ("turn", True, ((0,),), 3), ("turn", 10007, ((10006,),), 2),
        ("turn", [2], ((0, 1), (1, 1)), 3), ("act", 0, 1, 0), ("act", -1, 1, 0), ("act", True, 1, 0),
        ("act", False, 1, 0), ("act", "7", 3, 2), ("act", None, 3, 2), ("act", [7], 3, 2)],
    ("number", 2): [
        ("power", 2, 0), ("power", 2, 7), ("power", 2, -1), ("power", 2, True), ("power", 2, "1"), ("power", 2, None),
        ("power", 2, (1,)), ("act", 7, 0, 2), ("act", 7, -3, 2), ("act", 7, True, 1), ("act", 7, "3", 2),
        ("act", 7, None, 2), ("act", 7, [3], 2)],
    ("number", 3): [
        ("turn", 2, ((0, 1), (1, 1)), 4), ("turn", 2, ((0, 1), (1, 1)), 1), ("turn", 2, ((0, 1), (1, 1)), True),
        ("turn", 2, ((0, 1), (1, 1)), 10007), ("turn", 2, ((0, 1), (1, 1)), "3"), ("turn", 2, ((0, 1), (1, 1)), None),
        ("act", 7, 3, 7), ("act", 7, 3, 9), ("act", 7, 3, -1), ("act", 7, 3, True), ("act", 7, 1, True),
        ("act", 7, 3, "2"), ("act", 7, 3, None), ("act", 7, 3, [2]), ("act", 1, 1, 1), ("act", 1, 1, False),
        ("act", 1, 6, 1), ("act", 2, 1, 2), ("act", SIXTY_DIGITS, 1, SIXTY_DIGITS)],
    ("table", None): [
        ("turn", 2, rows, 3) for rows in (
            (), [], None, 1, True, "ab", (0, 1), ((),), ((0, 1),), ((0, 1), (1,)), ((0, 1), (1, 1, 0)), ((0,), (1,)),
            [(0, 1), (1, 1)], ((0, 1), [1, 1]), ([0, 1], [1, 1]), ((0, 1), (1, 2)), ((2, 1), (1, 1)), ((0, 1), (1, -1)),
            ((0, 1), (1, True)), ((False, 1), (1, 1)), ((0, 1), (1, "1")), ((0, 1), (1, None)), ((0, 1), (1, (1,))),
            ((0, 1), (1, [1])), ((0, 1), None), ((0, 1), (1, 1), (0, 0)), ((0, 1, 0), (1, 1, 0)), ("ab", "cd"))
        ] + [("turn", 2, shift(7), 7), ("turn", 3, shift(7), 7), ("turn", 2, one(7), 3)],
    ("primes", None): [
        ("turn", 2, ((1, 1), (0, 1)), 2), ("turn", 3, ((2,),), 3), ("turn", 9973, ((1,),), 9973),
        ("turn", 3, ((1, 1, 0), (0, 1, 1), (0, 0, 1)), 3)],
    ("turned", None): [
        ("turn", 2, ((0, 1), (1, 1)), 5), ("turn", 2, ((0, 1), (1, 0)), 3), ("turn", 2, ((0, 0), (0, 0)), 3),
        ("turn", 2, ((1, 0), (0, 1)), 3), ("turn", 7, ((1,),), 3), ("turn", 7, ((3,),), 3), ("turn", 7, ((6,),), 3),
        ("turn", 7, ((0,),), 3), ("turn", 3, ((2,),), 5), ("turn", 3, shift(2), 5), ("turn", 2, shift(5), 3),
        ("turn", 2, shift(6), 3), ("turn", 5, shift(6), 2), ("turn", 3, ((1, 1), (0, 1)), 2),
        ("turn", 2, ((1, 1), (0, 1)), 3)] + [("turn", 2, one(size), 3) for size in range(1, 7)],
    ("share", None): [
        ("act", 6, 4, 5), ("act", 2, 2, 1), ("act", 6, 6, 1), ("act", 21, 7, 1), ("act", 10 ** 59, 10 ** 50, 1),
        ("act", MERSENNE, 3 * MERSENNE, 1), ("act", 9, 3, 4)],
    ("act", None): [
        ("act", 7, 3, 3), ("act", 7, 3, 0), ("act", 7, 3, 6), ("act", 2, 1, 0), ("act", 7, 1, 2), ("act", 5, 3, 4),
        ("act", 15, 2, 2), ("act", 91, 3, 17), ("act", MERSENNE, 198, 2), ("act", MERSENNE, 200, 2),
        ("act", MERSENNE, 199 * 10 ** 57 + 1, 2), ("act", SIXTY_DIGITS, 1, 2)],
}


class Pieces(unittest.TestCase):
    def test_right_ones(self):
        for piece, many in PIECES:
            self.assertIs(is_piece(piece), True, piece)
            self.assertIs(is_rule((piece,)), True, piece)
            self.assertEqual(lets_rule((piece,)), many, piece)

    def test_tables_of_each_size_are_among_them(self):
        sizes = {len(piece[2]) for piece, _ in PIECES if piece[0] == "turn"}
        self.assertEqual(sizes, {1, 2, 3, 4, 5, 6})

    def test_wrong_ones(self):
        for things in FAULTS.values():
            for thing in things:
                self.assertIs(is_piece(thing), False, thing)
                self.assertIs(is_rule((thing,)), False, thing)

    def test_each_power_of_a_prime(self):
        for power in range(-1, 9):
            self.assertIs(is_piece(("power", 3, power)), 1 <= power <= 6)

    def test_each_number_as_a_prime(self):
        for number in list(range(-2, 130)) + list(range(9960, 10010)):
            self.assertIs(is_piece(("knot", number)), number in PRIME_TABLE)
            self.assertIs(is_piece(("power", number, 2)), number in PRIME_TABLE)
            self.assertIs(is_piece(("turn", number, ((number - 1,),), 2)), number in PRIME_TABLE and number != 2)

    def test_all_small_acts(self):
        for m, d in product(range(-1, 16), range(-1, 9)):
            for u in range(-1, m + 2):
                stands = m >= 1 and d >= 1 and gcd(m, d) == 1 and 0 <= u < m and (u ** d - 1) % m == 0
                self.assertIs(is_piece(("act", m, d, u)), stands, (m, d, u))

    def test_all_small_turns(self):
        for p, q in product((2, 3, 5), (2, 3, 5, 7)):
            tables = [((x,),) for x in range(p)]
            tables += [((a, b), (c, d)) for a, b, c, d in product(range(p), repeat=4)]
            for table in tables:
                stands = p != q and table != one(len(table)) and plain_power(table, q, p) == one(len(table))
                self.assertIs(is_piece(("turn", p, table, q)), stands, (p, table, q))

    def test_tables_of_three_rows(self):
        for bits in product(range(2), repeat=9):
            table = (bits[:3], bits[3:6], bits[6:])
            for q in (3, 5, 7):
                stands = table != one(3) and plain_power(table, q, 2) == one(3)
                self.assertIs(is_piece(("turn", 2, table, q)), stands, (table, q))

    def test_any_values(self):
        right = [written(piece) for piece, _ in PIECES]
        for thing in any_values():
            self.assertIs(is_piece(thing), written(thing) in right, thing)
            positive = type(thing) is int and thing >= 1
            self.assertIs(is_piece(("ring", thing)), positive)
            self.assertIs(is_piece(("act", thing, 1, 1)), positive and thing > 1)
            self.assertIs(is_piece(("act", 1, thing, 0)), positive)
            self.assertIs(is_piece(("act", 7, 1, thing)), type(thing) is int and thing == 1)
            self.assertIs(is_piece(("power", 2, thing)), positive and thing <= 6)
            self.assertIs(is_piece(("turn", 2, ((0, 1), (1, 1)), thing)), type(thing) is int and thing == 3)
            self.assertIs(is_piece(("turn", 3, ((thing,),), 2)), type(thing) is int and thing == 2)
            self.assertIs(is_piece(("turn", 3, (thing,), 2)), False)
            self.assertIs(is_piece(("turn", 3, thing, 2)), thing == ((2,),))
            self.assertIs(is_piece((thing, 2)), thing == "ring")


class Rules(unittest.TestCase):
    def test_orders_of_products(self):
        for (one_piece, many), (other, more) in product(PIECES, PIECES):
            self.assertEqual(lets_rule((one_piece, other)), many * more)
        everything = 1
        for _, many in PIECES:
            everything *= many
        self.assertEqual(lets_rule(tuple(piece for piece, _ in PIECES)), everything)

    def test_result_is_an_int(self):
        for piece, _ in PIECES:
            self.assertIs(type(lets_rule((piece,))), int)

    def test_what_is_no_rule(self):
        for thing in ((), [], [FOUR], FOUR, ("ring", 2), None, True, "ring", 2, (FOUR, None), (None, FOUR), ((),),
                      (FOUR, ["knot", 2]), ((FOUR,),), ("knot",)):
            self.assertIs(is_rule(thing), False, thing)

    def test_any_values(self):
        for thing in any_values():
            accepted = not outcome(lets_rule, thing).startswith("InvalidPaper")
            self.assertIs(is_rule(thing), accepted)
            self.assertIs(accepted, type(thing) is tuple and thing != () and all(is_piece(piece) for piece in thing))
            self.assertIs(is_rule((FOUR, thing)), is_piece(thing))


class Refused(unittest.TestCase):
    def expect(self, word, at, *things):
        for thing in things:
            self.assertEqual(outcome(lets_rule, thing), faulty(word, at), thing)
            self.assertEqual(outcome(lets_rule, thing=thing), faulty(word, at), thing)

    def test_shape(self):
        self.expect("shape", -1, (), [], [FOUR], [("ring", 2)], None, True, 2, "ring", "")

    def test_each_first_fault_at_each_place(self):
        for (word, place), things in FAULTS.items():
            for thing in things:
                for ahead in range(3):
                    at = ahead if place is None else (ahead, place)
                    self.expect(word, at, (FOUR,) * ahead + (thing,), (FOUR,) * ahead + (thing, ("knot", 2)))

    def test_two_faults_in_one_element(self):
        bad, late = ((0, 2), (1, 1)), ((1, 0), (0, 1))
        self.expect("piece", 0, ("ring", 0, 0), (("ring", 0, 0),), (["ring", 0],), (("act", 0, 0),))
        self.expect("number", (0, 1), (("power", 4, 0),), (("turn", 4, bad, 4),), (("turn", 4, late, 3),),
                    (("turn", 4, (), 4),), (("act", 0, 0, 0),), (("act", 0, 3, 7),), (("act", -1, 0, -1),))
        self.expect("number", (0, 2), (("act", 7, 0, 7),), (("act", 7, -1, 0),), (("act", 7, True, True),))
        self.expect("number", (0, 3), (("turn", 2, bad, 4),), (("turn", 2, [], 1),), (("turn", 2, late, 9),),
                    (("turn", 2, None, True),), (("act", 6, 4, 6),), (("act", 7, 7, 7),))
        self.expect("table", 0, (("turn", 2, bad, 2),), (("turn", 2, (), 2),), (("turn", 2, one(7), 2),))
        self.expect("primes", 0, (("turn", 2, late, 2),), (("turn", 2, ((0, 0), (0, 0)), 2),))
        self.expect("share", 0, (("act", 6, 4, 2),), (("act", 6, 4, 0),), (("act", 7, 7, 3),))

    def test_faults_in_two_elements(self):
        firsts = [(word, place, things[0]) for (word, place), things in FAULTS.items()]
        for (word, place, thing), (_, _, other) in product(firsts, repeat=2):
            self.expect(word, 0 if place is None else (0, place), (thing, other))
            self.expect(word, 1 if place is None else (1, place), (("ring", 2), thing, other))

    def test_any_values(self):
        for thing in any_values():
            if not isinstance(thing, tuple) or thing == ():
                self.expect("shape", -1, thing)
                self.expect("piece", 1, (FOUR, thing))
            if not (type(thing) is int and thing >= 1):
                self.expect("number", (1, 1), (FOUR, ("ring", thing)))
