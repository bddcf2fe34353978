"""Tables, pictures and stories: [33]."""

import unittest

from forcedtables.elementtexts import element_text
from forcedtables.pictures import picture, story, table_of
from forcedtables.placing import number_of
from forcedtables.rules import one_of, product_of, put_together
from tests.samples import (GREAT_RULES, MIXED, S3, SMALL_RULES, all_of, any_values, outcome, plain_together, refused,
                           written)

A, B = ((1, 0),), ((0, 1),)


def some_parts(rule):
    """Some tuples of elements of a small rule: none, one, the same several times, some, forty at most."""
    found = all_of(rule)
    return [(), (found[-1],), (found[0], found[-1], found[-1]), tuple(found[:40]), tuple(reversed(found[:5]))]


class Tables(unittest.TestCase):
    def test_rows(self):
        for rule in SMALL_RULES:
            for parts in some_parts(rule):
                right = tuple(tuple(plain_together(rule, part, other) for other in parts) for part in parts)
                self.assertEqual(written(table_of(rule, parts)), written(right))

    def test_great_rules(self):
        for rule, parts in GREAT_RULES.items():
            rows = table_of(rule, tuple(parts))
            for part, row in zip(parts, rows):
                self.assertEqual(row, tuple(put_together(rule, part, other) for other in parts))

    def test_each_element_once_in_each_row_and_column(self):
        for rule in SMALL_RULES:
            found = tuple(all_of(rule))
            rows = table_of(rule, found)
            for row, column in zip(rows, zip(*rows)):
                self.assertEqual([sorted(row), sorted(column)], [list(found), list(found)])

    def test_none(self):
        self.assertEqual(outcome(table_of, S3, ()), "tuple()")
        self.assertEqual(outcome(picture, S3, ()), "list()")
        self.assertEqual(outcome(story, S3, ()), "'0;0'")


class Pictures(unittest.TestCase):
    def test_numbers(self):
        for rule in SMALL_RULES:
            found = all_of(rule)
            for parts in some_parts(rule):
                right = [" ".join(str(found.index(plain_together(rule, part, other))) for other in parts)
                         for part in parts]
                self.assertEqual(written(picture(rule, parts)), written(right))

    def test_great_rules(self):
        for rule, parts in GREAT_RULES.items():
            right = [" ".join(str(number_of(rule, put_together(rule, part, other))) for other in parts)
                     for part in parts]
            self.assertEqual(written(picture(rule, tuple(parts))), written(right))

    def test_the_list_is_new(self):
        first = picture(S3, (A, B))
        first.append("more")
        first[0] = ""
        self.assertEqual(picture(S3, (A, B)), ["4 3", "5 0"])


class Stories(unittest.TestCase):
    def test_places(self):
        for rule in SMALL_RULES:
            for parts in some_parts(rule):
                places = [one_of(rule)]
                for part in parts:
                    places.append(plain_together(rule, places[-1], part))
                self.assertEqual(story(rule, parts), " > ".join(element_text(rule, place) for place in places))

    def test_the_last_place_is_the_product(self):
        for rule, parts in GREAT_RULES.items():
            found = story(rule, tuple(parts)).split(" > ")
            self.assertEqual(len(found), len(parts) + 1)
            self.assertEqual(found[-1], element_text(rule, product_of(rule, *parts)))
            self.assertEqual(found[0], element_text(rule, one_of(rule)))


class Refused(unittest.TestCase):
    def test_any_values(self):
        right = [written(part) for part in all_of(S3)]
        for call in (table_of, picture, story):
            for thing in any_values():
                stands = type(thing) is tuple and all(written(part) in right for part in thing)
                if not stands:
                    self.assertEqual(outcome(call, S3, thing), refused("parts"))
                self.assertEqual(outcome(call, [S3], thing), refused("rule"))
                if written(thing) not in right:
                    self.assertEqual(outcome(call, S3, (A, thing)), refused("parts"))

    def test_lists_and_elements_of_other_rules(self):
        for call in (table_of, picture, story):
            for thing in ([A, B], A, (A, (1, 0)), (A, [(0, 1)]), (A, ((3, 0),)), (((True, 0),),), (one_of(MIXED),)):
                self.assertEqual(outcome(call, S3, thing), refused("parts"))

    def test_what_is_handed_in_stays(self):
        parts = (A, B, A)
        for call in (table_of, picture, story):
            call(S3, parts)
            self.assertEqual(call(rule=S3, parts=parts), call(S3, parts))
        self.assertEqual(parts, (A, B, A))
