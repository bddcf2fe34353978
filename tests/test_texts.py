"""Texts of counts and of rules: [19] and its consequences."""

import re
import unittest
from itertools import product
from math import gcd

from forcedtables.countreadings import count_read
from forcedtables.counttexts import count_text
from forcedtables.rulereadings import rule_read
from forcedtables.ruletexts import rule_text
from tests.samples import (EVERY_PRIME, FORTY, FOUR, MERSENNE, MIXED, PRIME_TABLE, S3, SIX, SIXTY_DIGITS, SMALL_RULES,
                           any_values, changed, missing, outcome, plain_moved, refused, some_counts, written)

SHIFT = tuple(tuple(int((row + 1) % 5 == column) for column in range(5)) for row in range(5))
RULES = [*SMALL_RULES, MIXED, (("ring", SIXTY_DIGITS),), (("act", MERSENNE, 199, 2), ("ring", 10 ** 60 - 1)),
         (("power", 9973, 6), ("knot", 9973)), (("turn", 11, SHIFT, 5),), (("turn", 9973, ((9972,),), 2),),
         (("act", 91, 3, 16), FOUR, ("power", 5, 1), ("ring", 1)), tuple(("ring", m) for m in range(1, 60))]
COUNT_TEXTS = ["1", "2^1", "2^6", "9973^6", "2^3 5^1", "2^1 3^1", "3^2 5^1 7^6 101^3"]
RULE_TEXTS = ["ring 1", "ring 6", "power 2 6", "knot 3", "turn 2 0,1/1,1 3", "turn 7 4 3", "act 7 3 2", "act 1 6 0",
              "ring 6 | knot 3", "turn 3 2,0/0,2 2 | act 5 4 2 | ring 10", "act 15 2 4 | power 3 1", "act 12 1 1"]


def number(word):
    """The number of a word, or -1."""
    return int(word) if re.fullmatch("0|[1-9][0-9]{0,59}", word) else -1


def table(word):
    """The rows of a word, with -1 for what is no number."""
    return [[number(part) for part in row.split(",")] for row in word.split("/")]


def is_square(rows, prime):
    """Whether so many rows have as many numbers below the prime each."""
    return len(rows) <= 6 and all(len(row) == len(rows) and all(0 <= n < prime for n in row) for row in rows)


def turns_round(prime, rows, times):
    """Whether a table is not the one that changes nothing, but so many of it are."""
    columns = [tuple(int(row == column) for row in range(len(rows))) for column in range(len(rows))]
    moved = [plain_moved(rows, column, 1, prime) for column in columns]
    return moved != columns and [plain_moved(rows, column, times, prime) for column in columns] == columns


def prime_stands(piece, word):
    """Whether the word is a prime."""
    return number(word) in PRIME_TABLE


# For each piece what its words have to be, by those ahead of them.
WORDS = {
    "ring": [lambda piece, word: number(word) >= 1],
    "power": [prime_stands, lambda piece, word: word in list("123456")],
    "knot": [prime_stands],
    "turn": [prime_stands,
             lambda piece, word: is_square(table(word), int(piece[0])),
             lambda piece, word: prime_stands(piece, word) and word != piece[0]
             and turns_round(int(piece[0]), table(piece[1]), int(word))],
    "act": [lambda piece, word: number(word) >= 1,
            lambda piece, word: number(word) >= 1 and gcd(int(piece[0]), int(word)) == 1,
            lambda piece, word: 0 <= number(word) < int(piece[0])
            and (pow(int(word), int(piece[1]), int(piece[0])) - 1) % int(piece[0]) == 0],
}


def wrong_field_of_count(text):
    """The field of what is wrong with the text of a count, or None."""
    words = text.split(" ")
    if words[0] == "1":
        return None if len(words) == 1 else 1
    before = 0
    for at, word in enumerate(words):
        found = re.fullmatch("([1-9][0-9]*)\\^([1-6])", word)
        if not found or int(found[1]) not in PRIME_TABLE or int(found[1]) <= before:
            return at
        before = int(found[1])
    return None


def wrong_field_of_rule(text):
    """The field of what is wrong with the text of a rule, or None."""
    words = text.split(" ")
    at = 0
    while True:
        if at == len(words) or words[at] not in WORDS:
            return at
        start = at + 1
        for at, stands in enumerate(WORDS[words[at]], start):
            if at == len(words) or not stands(words[start:at], words[at]):
                return at
        at += 1
        if at == len(words):
            return None
        if words[at] != "|":
            return at
        at += 1


class CountTexts(unittest.TestCase):
    def test_words(self):
        self.assertEqual(count_text(()), "1")
        self.assertEqual(count_text(((2, 1),)), "2^1")
        self.assertEqual(count_text(((3, 2), (9973, 6))), "3^2 9973^6")
        for count in some_counts()[1:] + [EVERY_PRIME]:
            self.assertEqual(count_text(count), " ".join(f"{prime}^{power}" for prime, power in count))
            self.assertIs(type(count_text(count)), str)

    def test_what_is_written_is_read_as_it_was(self):
        for count in some_counts() + [EVERY_PRIME]:
            self.assertEqual(written(count_read(count_text(count))), written(count))

    def test_what_is_no_count(self):
        for thing in ([], [(2, 1)], ((2, 7),), ((True, 1),), ((2, True),), ((3, 1), (2, 1)), None, "2^1", 2, True):
            self.assertEqual(outcome(count_text, thing), refused("count"))

    def test_changed_texts(self):
        many = 0
        for text in COUNT_TEXTS:
            for other in changed(text, ["1", "2^1", "3^1", "7^6", "2^7", "2^0", "4^1", "", "|", "ring", "10007^1"]):
                field = wrong_field_of_count(other)
                if field is None:
                    self.assertEqual(count_text(count_read(other)), other)
                    many += 1
                else:
                    self.assertEqual(outcome(count_read, other), missing(field), repr(other))
        self.assertGreater(many, 200)

    def test_the_count_without_a_prime(self):
        self.assertEqual(outcome(count_read, "1"), "tuple()")
        for text, field in {"1 1": 1, "1 2^1": 1, "2^1 1": 1, "1 ": 1, " 1": 0, "1\n": 0, "01": 0, "1^1": 0, "": 0,
                            " ": 0, "\n": 0, "0": 0, "2": 0, "1  ": 1, "2^1 3^1 1": 2, "11": 0, "-1": 0}.items():
            self.assertEqual(outcome(count_read, text), missing(field), repr(text))

    def test_wrong_words(self):
        for word in ("4^1", "2^0", "2^7", "2^10", "02^1", "2^01", "2^", "^1", "^", "2^1^1", "2", "2*1", "+2^1", "2^+1",
                     "2^-1", "-2^1", "2^1.", "10007^1", "0^1", "1^1", "2_0^1", "2^1\n", "\n2^1", "2\n^1", "", "\t2^1",
                     "2^1\n3^1", "2" * 61 + "^1", "2^" + "1" * 61, "two^1", "2^one", "2^1,", "2^1|", "(2,1)",
                     "\u0662^1", "2^\u0661", "\u00b2^1"):
            self.assertEqual(outcome(count_read, word), missing(0), repr(word))
            self.assertEqual(outcome(count_read, "2^1 " + word), missing(1), repr(word))
            self.assertEqual(outcome(count_read, "2^1 3^6 " + word + " 11^1"), missing(2), repr(word))

    def test_spaces(self):
        for text, field in {" 2^1": 0, "2^1 ": 1, "2^1  3^1": 1, "2^1 3^1 ": 2, "2^1 3^1  ": 2, "  2^1": 0}.items():
            self.assertEqual(outcome(count_read, text), missing(field), repr(text))

    def test_primes_ascend(self):
        for text, field in {"2^1 2^1": 1, "3^1 2^1": 1, "2^1 5^1 3^1": 2, "2^1 5^1 5^2": 2, "5^1 2^3 4^1": 1}.items():
            self.assertEqual(outcome(count_read, text), missing(field), repr(text))

    def test_long_texts(self):
        text = count_text(EVERY_PRIME)
        self.assertEqual(count_read(text), EVERY_PRIME)
        self.assertEqual(outcome(count_read, text + " 2^1"), missing(1229))
        self.assertEqual(outcome(count_read, "2" * 4000), missing(0))
        self.assertEqual(outcome(count_read, " " * 4000), missing(0))


class RuleTexts(unittest.TestCase):
    def test_words(self):
        texts = {
            (("ring", 6),): "ring 6", (("power", 3, 2),): "power 3 2", (("knot", 7),): "knot 7",
            (FOUR,): "turn 2 0,1/1,1 3", (("turn", 7, ((4,),), 3),): "turn 7 4 3", S3: "act 3 2 2",
            (("act", 1, 6, 0),): "act 1 6 0", MIXED: "knot 2 | turn 2 0,1/1,1 3 | ring 10",
            (("turn", 11, SHIFT, 5),): "turn 11 0,1,0,0,0/0,0,1,0,0/0,0,0,1,0/0,0,0,0,1/1,0,0,0,0 5",
            (("ring", SIXTY_DIGITS), ("ring", 1)): "ring 1" + "0" * 58 + "7 | ring 1",
        }
        for rule, text in texts.items():
            self.assertEqual(written(rule_text(rule)), written(text))
            self.assertEqual(written(rule_read(text)), written(rule))

    def test_what_is_written_is_read_as_it_was(self):
        for rule in RULES:
            self.assertEqual(written(rule_read(rule_text(rule))), written(rule))

    def test_what_is_no_rule(self):
        for thing in ((), [FOUR], FOUR, (["knot", 2],), (("ring", True),), (("act", 7, 3, 3),), None, "ring 6",
                      2, True):
            self.assertEqual(outcome(rule_text, thing), refused("rule"))

    def test_changed_texts(self):
        many = 0
        for text in RULE_TEXTS:
            for other in changed(text, ["ring", "act", "turn", "|", "0", "1", "2", "4", "", "1,0/0,1", "1,0", "1,1"]):
                field = wrong_field_of_rule(other)
                if field is None:
                    self.assertEqual(rule_text(rule_read(other)), other)
                    many += 1
                else:
                    self.assertEqual(outcome(rule_read, other), missing(field), repr(other))
        self.assertGreater(many, 200)

    def test_fields(self):
        fields = {
            "": 0, " ": 0, "|": 0, "cube 2": 0, "Ring 2": 0, "ring": 1, "ring ": 1, "ring 0": 1, "ring 01": 1,
            "ring 6 ": 2, "ring 6 6": 2, "ring 6 |": 3, "ring 6 | ": 3, "ring 6 | |": 3, "ring 6 || ring 6": 2,
            "ring 6 ring 6": 2, "| ring 6": 0, "ring | 6": 1, "ring 6 | knot": 4, "ring 6 | knot 4": 4, "ring 6\n": 1,
            "ring\n6": 0, "ring 6 |\nknot 3": 2, "ring  6": 1, " ring 6": 0, "ring 6  | knot 3": 2,
            "ring 6 |  knot 3": 3,
            "power": 1, "power 4 1": 1, "power 2": 2, "power 2 0": 2, "power 2 7": 2, "power 2 1 1": 3, "power 2 |": 2,
            "knot 2 2": 2, "knot 1": 1, "knot 10007": 1, "act": 1, "act 0": 1, "act 7": 2, "act 7 0": 2, "act 7 7": 2,
            "act 6 4 5": 2, "act 7 3": 3, "act 7 3 3": 3, "act 7 3 7": 3, "act 7 3 2 1": 4, "act 1 6 1": 3,
            "act 1 1 1": 3, "act 6 4": 2, "act 0 0 0": 1, "act 7 3 |": 3, "act 7 | 3 2": 2, "act 7 3 0": 3,
            "act 7 3 02": 3,
        }
        for text, field in fields.items():
            self.assertEqual(outcome(rule_read, text), missing(field), repr(text))

    def test_turns(self):
        fields = {
            "turn": 1, "turn 4": 1, "turn 4 0,1/1,1 3": 1, "turn 2": 2, "turn 2 ": 2, "turn 2 0,1/1": 2,
            "turn 2 0,1": 2, "turn 2 0,1/1,2 3": 2, "turn 2 0,1/1,1,1 3": 2, "turn 2 0,1/1,1/0,0 3": 2,
            "turn 2 0,1/1,01 3": 2, "turn 2 0,1/1, 3": 2, "turn 2 /0,1/1,1 3": 2, "turn 2 0,1//1,1 3": 2,
            "turn 2 0;1/1,1 3": 2, "turn 2 , 3": 2, "turn 2 / 3": 2, "turn 2 0,1/1,-1 3": 2, "turn 2 0,1/1,1\n 3": 2,
            "turn 2 0,1 /1,1 3": 2,
            "turn 2 0,1/1,1": 3, "turn 2 1,0/0,1": 3, "turn 2 0,0/0,0": 3, "turn 2 1": 3, "turn 7 3": 3,
            "turn 2 1,0/0,1 3": 3, "turn 2 0,0/0,0 3": 3, "turn 2 1 3": 3, "turn 7 3 3": 3, "turn 2 0,1/1,1 5": 3,
            "turn 2 0,1/1,1 2": 3, "turn 2 1,1/0,1 2": 3, "turn 2 0,1/1,1 4": 3, "turn 2 0,1/1,1 0": 3,
            "turn 2 0,1/1,1 03": 3, "turn 2 0,1/1,1 3 3": 4, "turn 2 0,1/1,1 3 |": 5, "turn 2 0,1/1,1 |": 3,
            "turn 2 0,1/1,1 10007": 3, "turn 2 1,0,0,0,0,0,0/0,1,0,0,0,0,0/0,0,1,0,0,0,0/0,0,0,1,0,0,0/0,0,0,0,1,0,0/"
            "0,0,0,0,0,1,0/0,0,0,0,0,0,1 3": 2,
        }
        for text, field in fields.items():
            self.assertEqual(outcome(rule_read, text), missing(field), repr(text))

    def test_sixty_digits(self):
        for digits in (1, 2, 59, 60):
            self.assertEqual(rule_read("ring " + "9" * digits), (("ring", 10 ** digits - 1),))
            self.assertEqual(rule_read("act 1 " + "9" * digits + " 0"), (("act", 1, 10 ** digits - 1, 0),))
        for digits in (61, 62, 3990):
            self.assertEqual(outcome(rule_read, "ring " + "9" * digits), missing(1))
            self.assertEqual(outcome(rule_read, "act 1 " + "9" * digits + " 0"), missing(2))
            self.assertEqual(outcome(rule_read, "ring " + "0" * digits), missing(1))

    def test_digits_alone(self):
        for word in ("+6", "-6", "6.0", "6_0", "0x6", "six", "\u0666", "6\n", "\n6", "6,", "6/", "\u00b2"):
            self.assertEqual(outcome(rule_read, "ring " + word), missing(1), repr(word))
            self.assertEqual(outcome(rule_read, "act 7 3 " + word), missing(3), repr(word))
            self.assertEqual(outcome(rule_read, "turn 7 " + word + " 3"), missing(2), repr(word))

    def test_each_sign_beside_a_digit(self):
        for code in [10, *range(32, 127)]:
            sign = chr(code)
            for word in (sign, "1" + sign, sign + "1", "1" + sign + "1"):
                for text in (f"ring {word}", f"ring 6 | ring {word}", f"power 5 {word}", f"turn 7 {word} 3"):
                    field = wrong_field_of_rule(text)
                    if field is None:
                        self.assertEqual(rule_text(rule_read(text)), text)
                    else:
                        self.assertEqual(outcome(rule_read, text), missing(field), repr(text))
                stands = wrong_field_of_count(f"2^{word}") is None
                self.assertIs(outcome(count_read, f"2^{word}").startswith("tuple"), stands, repr(word))

    def test_many_pieces(self):
        text = " | ".join(["act 7 3 2"] * 300)
        self.assertEqual(rule_read(text), (("act", 7, 3, 2),) * 300)
        self.assertEqual(outcome(rule_read, text + " | act 7 3 3"), missing(1503))
        self.assertEqual(outcome(rule_read, text + " |"), missing(1500))


class Readers(unittest.TestCase):
    def test_only_strings_are_read(self):
        for thing in any_values():
            for reader in (count_read, rule_read):
                if isinstance(thing, str):
                    self.assertNotEqual(outcome(reader, thing), refused("text"))
                else:
                    self.assertEqual(outcome(reader, thing), refused("text"))

    def test_what_is_read_is_made_of_tuples_and_integers(self):
        for text, count in product(("2^3 5^1",), (FORTY,)):
            self.assertEqual(outcome(count_read, text=text), written(count))
        self.assertEqual(outcome(rule_read, text="turn 2 0,1/1,1 3"), written((FOUR,)))
        self.assertEqual(outcome(count_read, "2^1 3^1"), written(SIX))
