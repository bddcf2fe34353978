"""Kinds of values: [2], [3], [7], [13], [64]."""

import unittest
from itertools import product

from forcedtables.kinds import is_choice, is_count, is_event, is_integer, is_name, is_number, is_prime
from tests.samples import (EVERY_PRIME, FIFTEEN, FORTY, PRIME_TABLE, SIX, SIXTY_DIGITS, THIRTY, any_values,
                           is_real_count, is_real_prime, some_counts)

THREES = ((3, 1), (7, 1), (13, 1))
PRIME_COUNT = ((2, 1), (3, 1), (5, 1), (7, 1))


class Numbers(unittest.TestCase):
    def test_integers(self):
        for thing in (0, 1, -1, 2, -SIXTY_DIGITS, SIXTY_DIGITS, 10 ** 60 - 1):
            self.assertIs(is_integer(thing), True)
        for thing in (True, False, None, "", "1", (), (1,), [1], [], ((1,),)):
            self.assertIs(is_integer(thing), False)

    def test_numbers(self):
        for thing in (0, 1, 2, SIXTY_DIGITS, 10 ** 60 - 1):
            self.assertIs(is_number(thing), True)
        for thing in (-1, -SIXTY_DIGITS, True, False, None, "0", "", (0,), [0]):
            self.assertIs(is_number(thing), False)

    def test_any_values(self):
        for thing in any_values():
            self.assertIs(is_integer(thing), type(thing) is int)
            self.assertIs(is_number(thing), type(thing) is int and thing >= 0)
            self.assertIs(is_prime(thing), is_real_prime(thing))


class Primes(unittest.TestCase):
    def test_all_about_and_below_the_end(self):
        for number in range(-10, 10300):
            self.assertIs(is_prime(number), number in PRIME_TABLE, number)

    def test_squares_of_primes_and_their_neighbours(self):
        for prime in (2, 3, 5, 7, 11, 31, 89, 97, 101):
            for number in (prime * prime - 1, prime * prime, prime * prime + 1):
                self.assertIs(is_prime(number), number in PRIME_TABLE, number)
        self.assertIs(is_prime(97 * 97), False)

    def test_both_sides_of_ten_thousand(self):
        self.assertIs(is_prime(9973), True)
        for number in (9999, 10000, 10001, 10007, 10009, 10007 ** 2, SIXTY_DIGITS):
            self.assertIs(is_prime(number), False)

    def test_what_is_no_integer(self):
        for thing in (True, False, None, "2", (2,), [2], -2, -3):
            self.assertIs(is_prime(thing), False)


class Counts(unittest.TestCase):
    def test_counts(self):
        for count in some_counts() + [EVERY_PRIME]:
            self.assertIs(is_count(count), True)

    def test_what_is_none(self):
        for thing in ([], [(2, 1)], ([2, 1],), (2, 1), ((2,),), ((2, 1, 1),), ((4, 1),), ((1, 1),), ((0, 1),),
                      ((10007, 1),), ((True, 1),), (("2", 1),), ((2, True),), ((2, False),), ((2, 0),), ((2, 7),),
                      ((2, -1),), ((2, "1"),), ((2, None),), ((3, 1), (2, 1)), ((2, 1), (2, 1)), ((2, 1), None),
                      ((2, 1), (3, 1), (2, 1)), ((2, (1,)),), (((2,), 1),), ((), ()), None, "", 1, True):
            self.assertIs(is_count(thing), False, thing)

    def test_any_values(self):
        for thing in any_values():
            self.assertIs(is_count(thing), is_real_count(thing))


def plain_is_choice(count, thing):
    """Whether a tuple of pairs of an integer and a tuple of integers is a choice, by [7] read once more."""
    primes = [prime for prime, _ in count]
    acting = [pair[0] for pair in thing]
    if acting != sorted(set(acting)) or not set(acting) <= set(primes):
        return False
    rest = [prime for prime in primes if prime not in acting]
    for prime, row in thing:
        if len(row) != len(rest) or not all(0 <= number < prime for number in row):
            return False
        if any(number and other % prime != 1 for number, other in zip(row, rest)):
            return False
        if not any(row) or next(number for number in row if number) != 1:
            return False
    return True


class Choices(unittest.TestCase):
    def test_choices(self):
        for count, thing in ((SIX, ()), (SIX, ((2, (1,)),)), ((), ()), (FIFTEEN, ()), (((2, 1),), ()),
                             (THIRTY, ((2, (0, 1)),)), (THIRTY, ((2, (1, 0)),)), (THIRTY, ((2, (1, 1)),)),
                             (THREES, ((3, (1, 2)),)), (THREES, ((3, (0, 1)),)), (THREES, ((3, (1, 0)),)),
                             (PRIME_COUNT, ((2, (0, 1)), (3, (0, 1)))), (PRIME_COUNT, ((2, (1, 0)), (3, (0, 1)))),
                             (PRIME_COUNT, ((2, (1, 1, 1)),))):
            self.assertIs(is_choice(count, thing), True, (count, thing))

    def test_what_is_none(self):
        for count, thing in (
                (SIX, []), (SIX, None), (SIX, ""), (SIX, (2, (1,))), (SIX, ([2, (1,)],)), (SIX, ((2, [1]),)),
                (SIX, [(2, (1,))]), (SIX, ((2, 1),)), (SIX, ((2,),)), (SIX, ((2, (1,), ()),)), (SIX, ((2, (True,)),)),
                (SIX, ((2, (0,)),)), (SIX, ((2, (2,)),)), (SIX, ((2, (-1,)),)), (SIX, ((2, ("1",)),)),
                (SIX, ((2, (None,)),)), (SIX, ((2, (1, 0)),)), (SIX, ((2, ()),)), (SIX, ((3, (1,)),)),
                (SIX, ((5, (1,)),)), (SIX, ((True, (1,)),)), (SIX, (("2", (1,)),)), (SIX, (([2], (1,)),)),
                (SIX, ((2, ()), (3, ()))), (SIX, ((2, (1,)), (2, (1,)))), (((2, 1),), ((2, ()),)),
                (THIRTY, ((2, (1,)),)), (THIRTY, ((2, (0, 0)),)), (THIRTY, ((2, (1, True)),)),
                (THIRTY, ((2, (False, 1)),)), (THIRTY, ((3, (0, 1)),)), (THREES, ((3, (2, 1)),)),
                (THREES, ((3, (1, 3)),)), (THREES, ((3, (0, 2)),)), (THREES, ((3, (1, -1)),)),
                (PRIME_COUNT, ((3, (0, 1)), (2, (0, 1)))), (PRIME_COUNT, ((2, (1, 0, 0)), (3, (0, 1)))),
                (PRIME_COUNT, ((2, (0, 1)), (3, (1, 0)))), (PRIME_COUNT, ((2, (0, 1)), (3, (0, 2)))),
                (PRIME_COUNT, ((2, (0, 1)), None))):
            self.assertIs(is_choice(count, thing), False, (count, thing))

    def test_a_count_that_is_not_square_free_has_none(self):
        for count in (FORTY, ((2, 2),), ((3, 1), (7, 2)), ((3, 2), (7, 1))):
            self.assertIs(is_choice(count, ()), False)
            self.assertIs(is_choice(count, ((3, (1,)),)), False)

    def test_what_is_no_count_has_none(self):
        for count in any_values():
            stated = is_real_count(count) and all(power == 1 for _, power in count)
            self.assertIs(is_choice(count, ()), stated)
            self.assertIs(is_choice(count, ((2, (1,)),)), count == SIX)

    def test_any_values_as_choices(self):
        for thing in any_values():
            for count in (SIX, (), THIRTY):
                self.assertIs(is_choice(count, thing), thing == () and type(thing) is tuple)
            self.assertIs(is_choice(SIX, ((2, thing),)), False)
            self.assertIs(is_choice(SIX, ((2, (thing,)),)), type(thing) is int and thing == 1)
            self.assertIs(is_choice(SIX, ((thing, (1,)),)), type(thing) is int and thing == 2)

    def test_all_short_things(self):
        counts = (SIX, FIFTEEN, THIRTY, THREES, PRIME_COUNT, ((2, 1), (3, 1), (7, 1)), ((3, 1), (5, 1), (31, 1)))
        for count in counts:
            rows = [row for size in range(4) for row in product(range(3), repeat=size)]
            pairs = [(prime, row) for prime in (2, 3, 5) for row in rows]
            for pair in pairs:
                self.assertIs(is_choice(count, (pair,)), plain_is_choice(count, (pair,)), (count, pair))

    def test_all_short_things_of_two(self):
        rows = list(product(range(3), repeat=2)) + [(), (1,), (1, 0, 0)]
        for count in (THIRTY, PRIME_COUNT, ((2, 1), (3, 1), (7, 1), (13, 1))):
            for one, two in product([(prime, row) for prime in (2, 3) for row in rows], repeat=2):
                self.assertIs(is_choice(count, (one, two)), plain_is_choice(count, (one, two)), (count, one, two))


class Names(unittest.TestCase):
    def test_lengths(self):
        for length in range(12):
            self.assertIs(is_name("q" * length), 1 <= length <= 8, length)
        self.assertIs(is_name("z" * 4000), False)

    def test_each_letter_and_each_other_sign(self):
        for code in list(range(32, 127)) + [10]:
            sign = chr(code)
            letter = "a" <= sign <= "z"
            for name in (sign, sign + "b", "a" + sign, "abc" + sign + "defg"):
                self.assertIs(is_name(name), letter, repr(name))

    def test_what_is_no_string(self):
        for thing in (None, True, 1, ("a",), ["a"], ("a", "b"), [], ()):
            self.assertIs(is_name(thing), False)

    def test_any_values(self):
        for thing in any_values():
            named = isinstance(thing, str) and 0 < len(thing) < 9 and all("a" <= sign <= "z" for sign in thing)
            self.assertIs(is_name(thing), named)


class Events(unittest.TestCase):
    def test_each_form(self):
        for thing in (("prime", 2), ("prime", 9973), ("drop", 2), ("drop", 9973), ("note", "a"), ("note", "abcdefgh"),
                      ("note", "off"), ("hold", "off"), ("hold", "cyclic"), ("hold", "commute"), ("hold", "split")):
            self.assertIs(is_event(thing), True, thing)

    def test_one_thing_changed(self):
        for thing in (["prime", 2], ("prime",), ("prime", 2, 2), ("prime", 4), ("prime", 1), ("prime", 10007),
                      ("prime", True), ("prime", "2"), ("prime", (2,)), ("prime", None), ("primes", 2), ("Prime", 2),
                      ("", 2), (["prime"], 2), (("prime",), 2), ("drop", 4), ("drop", 0), ("drop", False),
                      ("drop", [2]), ("drop", "a"), ["drop", 2], ("drop", 2, None), ("note", ""), ("note", "abcdefghi"),
                      ("note", "A"), ("note", "a b"), ("note", "a\n"), ("note", 2), ("note", ("a",)), ("note", None),
                      ["note", "a"], ("note",), ("note", "a", "a"), ("notes", "a"), ("hold", "on"), ("hold", ""),
                      ("hold", "Off"), ("hold", "cyclics"), ("hold", "cycli"), ("hold", None), ("hold", False),
                      ("hold", ["off"]), ("hold", ("off",)), ("hold", ("off", "cyclic")), ["hold", "off"], ("hold",),
                      ("hold", "off", "off"), ("holds", "off"), ("off", "hold"), (2, "prime"), ("undo", None),
                      (None, None), (True, 2), (), "prime 2", "ab", 2, None):
            self.assertIs(is_event(thing), False, thing)

    def test_any_values(self):
        holds = ("off", "cyclic", "commute", "split")
        for thing in any_values():
            self.assertIs(is_event(("prime", thing)), is_real_prime(thing))
            self.assertIs(is_event(("drop", thing)), is_real_prime(thing))
            self.assertIs(is_event(("note", thing)), is_name(thing))
            self.assertIs(is_event(("hold", thing)), isinstance(thing, str) and thing in holds)
            self.assertIs(is_event((thing, 2)), thing == "prime" or thing == "drop")
            self.assertIs(is_event((thing, "off")), thing == "note" or thing == "hold")
            self.assertIs(is_event(thing), thing in (("prime", 2), ("drop", 9973), ("note", "a"), ("hold", "off")))
