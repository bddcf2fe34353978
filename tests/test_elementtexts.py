"""Texts of elements: [32] and its consequences."""

import re
import unittest

from forcedtables.elementreadings import element_read
from forcedtables.elementtexts import element_text
from forcedtables.placing import element_at
from forcedtables.rulechecker import lets_rule
from tests.samples import (FOUR, GREAT_RULES, HUGE, MERSENNE, MIXED, S3, SIXTY_DIGITS, SMALL_RULES, all_of, any_values,
                           changed, missing, outcome, refused, written)

MANY = [*SMALL_RULES, MIXED]
SEVENTY = 10 ** 70
WORDS = ["0", "1", "9", "10", "", "0;0", "1;1", "0,0", "1,0;1", "0,0,0", "1,1,0", "2;0", "1;2", "01", "|", "ring"]
TRIED = {
    S3: "2;1", (("ring", 12),): "10", (("power", 3, 2),): "2,1", (("knot", 2),): "1,0,1", (FOUR,): "1,0;2",
    MIXED: "1,1,0 1,0;1 4", (("turn", 7, ((4,),), 3),): "6;2", (("act", 1, 6, 0), ("ring", 1)): "0;5 0",
    (("ring", 2), ("ring", 200)): "1 100", (("power", 7, 1), ("knot", 3)): "6 2,1,0",
}


def plain_bounds(piece):
    """What the numbers of an element of the piece are below, and the sign ahead of the last one."""
    word, below = piece[:2]
    return {
        "ring": lambda: ([below], ","),
        "power": lambda: ([below] * piece[2], ","),
        "knot": lambda: ([below] * 3, ","),
        "turn": lambda: ([below] * len(piece[2]) + [piece[3]], ";"),
        "act": lambda: ([below, piece[2]], ";"),
    }[word]()


def word_stands(piece, word):
    """Whether a word writes an element of the piece, by [32]."""
    bounds, sign = plain_bounds(piece)
    numbers = ["(0|[1-9][0-9]*)"] * len(bounds)
    pattern = ",".join(numbers[:-1]) + sign * (len(bounds) > 1) + numbers[-1]
    found = re.fullmatch(pattern, word)
    return bool(found) and all(int(number) < bound for number, bound in zip(found.groups(), bounds))


def wrong_field(rule, text):
    """The field of what is wrong with the text of an element, or None."""
    words = text.split(" ")
    for at, word in enumerate(words):
        if at == len(rule) or not word_stands(rule[at], word):
            return at
    return None if len(words) == len(rule) else len(words)


class Written(unittest.TestCase):
    def test_words(self):
        texts = [
            ((("ring", 12),), (10,), "10"), ((("power", 3, 2),), ((2, 1),), "2,1"), ((("power", 3, 1),), ((2,),), "2"),
            ((("knot", 5),), ((4, 0, 3),), "4,0,3"), ((FOUR,), (((1, 0), 2),), "1,0;2"),
            ((("turn", 7, ((4,),), 3),), (((6,), 2),), "6;2"), (S3, ((2, 1),), "2;1"),
            ((("act", 1, 6, 0),), ((0, 5),), "0;5"), (MIXED, ((1, 1, 0), ((1, 0), 1), 4), "1,1,0 1,0;1 4"),
            ((("ring", SIXTY_DIGITS),), (SIXTY_DIGITS - 1,), str(SIXTY_DIGITS - 1)),
            ((("ring", 1),) * 3, (0, 0, 0), "0 0 0"),
            ((("act", MERSENNE, 199, 2),), ((MERSENNE - 1, 198),), f"{MERSENNE - 1};198"),
        ]
        for rule, element, text in texts:
            self.assertEqual(written(element_text(rule, element)), written(text))
            self.assertEqual(written(element_read(rule, text)), written(element))

    def test_what_is_written_is_read_as_it_was(self):
        for rule in MANY:
            for element in all_of(rule):
                self.assertEqual(written(element_read(rule, element_text(rule, element))), written(element))
        for rule, parts in GREAT_RULES.items():
            many = lets_rule(rule)
            for element in [*parts, element_at(rule, 0), element_at(rule, many // 2), element_at(rule, many - 1)]:
                self.assertEqual(written(element_read(rule, element_text(rule, element))), written(element))

    def test_no_two_elements_have_one_text(self):
        for rule in MANY:
            found = all_of(rule)
            self.assertEqual(len({element_text(rule, element) for element in found}), len(found))

    def test_numbers_somewhat_beyond_sixty_digits(self):
        rule = (("ring", SEVENTY), ("act", 1, SEVENTY, 0))
        element = (SEVENTY - 1, (0, SEVENTY - 3))
        self.assertEqual(element_read(rule, element_text(rule, element)), element)
        self.assertEqual(outcome(element_read, rule, f"{SEVENTY} 0;0"), missing(0))

    def test_what_is_no_element(self):
        right = [written(part) for part in all_of(S3)]
        for thing in any_values():
            if written(thing) not in right:
                self.assertEqual(outcome(element_text, S3, thing), refused("element"))
            self.assertEqual(outcome(element_text, [], thing), refused("rule"))


class Read(unittest.TestCase):
    def test_changed_texts(self):
        many = 0
        for rule, text in TRIED.items():
            self.assertIsNone(wrong_field(rule, text))
            for other in changed(text, WORDS):
                field = wrong_field(rule, other)
                if field is None:
                    self.assertEqual(element_text(rule, element_read(rule, other)), other)
                    many += 1
                else:
                    self.assertEqual(outcome(element_read, rule, other), missing(field), (rule, other))
        self.assertGreater(many, 200)

    def test_fields(self):
        fields = {
            "": 0, " ": 0, "1,1,0": 1, "1,1,0 ": 1, "1,1,0 1,0;1": 2, "1,1,0 1,0;1 ": 2, "1,1,0 1,0;1 4 ": 3,
            "1,1,0 1,0;1 4 4": 3, " 1,1,0 1,0;1 4": 0, "1,1,0  1,0;1 4": 1, "1,1,0 1,0;1  4": 2, "1,1,0 1,0;1 10": 2,
            "1,1,0 1,0;1 04": 2, "1,1,0 1,0;1 4\n": 2, "1,1,0\n1,0;1 4": 0, "1,1,0 1,0,1 4": 1, "1,1;0 1,0;1 4": 0,
            "1,1,0 1;0;1 4": 1, "1,1,0 1,0;3 4": 1, "1,1,0 1,2;1 4": 1, "1,1,2 1,0;1 4": 0, "1,1 1,0;1 4": 0,
            "1,1,0,0 1,0;1 4": 0, "1,1,0 1;1 4": 1, "1,1,0 1,0; 4": 1, "1,1,0 1,0;1 ;4": 2, "1,1,0 1,0;1 4,": 2,
            "1,1,00 1,0;1 4": 0, "1,1,-0 1,0;1 4": 0, "1,,0 1,0;1 4": 0, "1,1,0 1,0;01 4": 1, "\n": 0, "x": 0,
            "1,1,0 x x": 1, "x 1,0;1": 0, "1,1,0 1,0;1 +4": 2, "1,1,0 1,0;1 4_0": 2, "1,1,0 1,0;1 \u0664": 2,
        }
        for text, field in fields.items():
            self.assertEqual(wrong_field(MIXED, text) if text.isascii() else field, field, repr(text))
            self.assertEqual(outcome(element_read, MIXED, text), missing(field), repr(text))

    def test_many_digits(self):
        for digits in (60, 61, 3999, 4000):
            for rule in (S3, (("ring", 6),), (("ring", SIXTY_DIGITS - 1),)):
                self.assertEqual(outcome(element_read, rule, "9" * digits), missing(0))
                self.assertEqual(outcome(element_read, rule, "0" * digits), missing(0))
        self.assertEqual(element_read((("ring", SIXTY_DIGITS),), "9" * 59), (10 ** 59 - 1,))
        self.assertEqual(outcome(element_read, HUGE, " ".join(["0"] * 2000)), missing(1))
        self.assertEqual(outcome(element_read, (("ring", 2),) * 2000, " ".join(["1"] * 1999)), missing(1999))

    def test_only_strings_are_read(self):
        for thing in any_values():
            if isinstance(thing, str):
                field = wrong_field(S3, thing)
                self.assertEqual(outcome(element_read, S3, thing), missing(field))
            else:
                self.assertEqual(outcome(element_read, S3, thing), refused("text"))
            self.assertEqual(outcome(element_read, [S3], thing), refused("rule"))

    def test_by_name(self):
        self.assertEqual(element_text(element=((2, 1),), rule=S3), "2;1")
        self.assertEqual(element_read(text="2;1", rule=S3), ((2, 1),))
