"""Elements as objects: [29], [31]."""

import inspect
import unittest
from itertools import permutations, product

from forcedtables import elementclasses
from forcedtables.elementclasses import Element, Placed
from forcedtables.elementtexts import element_text
from forcedtables.errors import GroupError
from forcedtables.orders import order_of
from forcedtables.rules import back, one_of, put_together, to_the, turned_by
from tests.samples import (FOUR, GREAT_RULES, HUGE, MIXED, S3, SIXTY_DIGITS, SMALL_RULES, all_of, any_values, is_real,
                           outcome, plain_parts, plain_together, refused, told_of, written)

A, B = ((1, 0),), ((0, 1),)
SOME = ((1, 1, 0), ((1, 0), 1), 4)
# Rules with some of their elements.
SAMPLES = [*GREAT_RULES.items(), *[(rule, all_of(rule)[::5]) for rule in SMALL_RULES]]


class Derived(Element):
    """A class derived from Element that adds nothing."""


def value_of_it(call, *args):
    """The value of the Element that a call returns, or its error, as a text."""
    return told_of(Element, "value_now", call, *args)


def times_of(one, other):
    """Two objects put together."""
    return one * other


class Made(unittest.TestCase):
    def test_of_elements(self):
        for rule, parts in SAMPLES:
            for element in parts:
                for one in (Element(rule, element), Element(value=element, rule=rule), Derived(rule, element)):
                    self.assertEqual(written(one.rule_now), written(rule))
                    self.assertEqual(written(one.value_now), written(element))

    def test_refused(self):
        right = [written(part) for part in all_of(S3)]
        for thing in any_values() + [Element(S3, A), S3, Element]:
            if written(thing) not in right:
                self.assertEqual(outcome(Element, S3, thing), refused("value"))
            self.assertEqual(outcome(Element, [S3], thing), refused("rule"))
            self.assertEqual(outcome(Element, (), thing), refused("rule"))
            self.assertEqual(outcome(Element, (FOUR, ("act", 7, 3, 3)), thing), refused("rule"))

    def test_names_and_places(self):
        self.assertEqual([Element.__bases__, Placed.__bases__], [(object,), (Element,)])
        for made, names in ((Element, ["rule", "value"]), (Placed, ["rule", "index", "part"])):
            self.assertEqual(list(inspect.signature(made).parameters), names)
            self.assertEqual(made.__module__, elementclasses.__name__)
            self.assertIn("__init__", vars(made))
        for name, names in {"order": [], "back": [], "to_the": ["times"], "turned_by": ["other"]}.items():
            self.assertTrue(inspect.isfunction(vars(Element)[name]))
            self.assertEqual(list(inspect.signature(getattr(Element(S3, A), name)).parameters), names)
        for made, names in ((Element, ("rule_now", "value_now")), (Placed, ("index_now",))):
            for name in names:
                self.assertIsInstance(vars(made)[name], property)
        for name in ("__mul__", "__getitem__", "__len__", "__iter__", "__str__", "__eq__"):
            self.assertIn(name, vars(Element))


class Told(unittest.TestCase):
    def test_what_the_functions_tell(self):
        for rule, parts in SAMPLES:
            for element in parts:
                for one in (Element(rule, element), Derived(rule, element)):
                    self.assertEqual(written(one.order()), written(order_of(rule, element)))
                    self.assertEqual(value_of_it(one.back), written(back(rule, element)))
                    for times in (0, 1, -1, 2, -3, SIXTY_DIGITS, -SIXTY_DIGITS):
                        self.assertEqual(value_of_it(one.to_the, times), written(to_the(rule, element, times)))
                    self.assertEqual(written(str(one)), written(element_text(rule, element)))

    def test_two_of_them(self):
        for rule, parts in SAMPLES:
            for element, other in product(parts[:6], repeat=2):
                ones = [Element(rule, element), Derived(rule, element)]
                for one, late in product(ones, (Element(rule, other), Derived(rule, other))):
                    self.assertEqual(value_of_it(times_of, one, late), written(put_together(rule, element, other)))
                    self.assertEqual(value_of_it(one.turned_by, late), written(turned_by(rule, element, other)))
                    self.assertEqual((one * late).rule_now, rule)

    def test_all_elements_of_a_rule(self):
        for element, other in product(all_of(S3), repeat=2):
            both = Element(S3, element) * Element(S3, other)
            self.assertEqual(both.value_now, plain_together(S3, element, other))

    def test_parts(self):
        for rule, parts in SAMPLES:
            for element in parts:
                one = Element(rule, element)
                self.assertEqual(len(one), len(rule))
                self.assertEqual(list(one), list(element))
                self.assertEqual([part for part in one], list(element))
                self.assertEqual(written([one[at] for at in range(len(rule))]), written(list(element)))
                self.assertEqual(outcome(lambda: one[len(rule)]), refused("index"))
                self.assertEqual(outcome(lambda: one[-1]), refused("index"))

    def test_any_index(self):
        for rule, element in ((S3, A), (MIXED, SOME)):
            one = Element(rule, element)
            for thing in any_values() + [slice(0, 1), Element(S3, A)]:
                stands = is_real(thing) and 0 <= thing < len(rule)
                right = written(element[thing]) if stands else refused("index")
                self.assertEqual(outcome(lambda: one[thing]), right)

    def test_times(self):
        for thing in any_values():
            right = written(to_the(S3, A, thing)) if is_real(thing) else refused("times")
            self.assertEqual(value_of_it(Element(S3, A).to_the, thing), right)
        self.assertEqual(Element(S3, A).to_the(times=2).value_now, ((2, 0),))

    def test_other(self):
        one = Element(S3, A)
        unlike = [Element(MIXED, SOME), Element((("act", 3, 2, 2), ("ring", 1)), ((1, 0), 0)),
                  Element((("act", 3, 2, 1),), A), Element((("turn", 3, ((2,),), 2),), (((1,), 0),)),
                  Derived((("act", 3, 4, 2),), A), Placed((("ring", 3),), 0, 1)]
        for thing in any_values() + unlike + [A, B, S3, Element, None]:
            self.assertEqual(value_of_it(times_of, one, thing), refused("other"))
            self.assertEqual(value_of_it(one.turned_by, thing), refused("other"))
        self.assertEqual(one.turned_by(other=Element(S3, B)).value_now, ((2, 0),))

    def test_rules_are_equal_by_value(self):
        again = tuple([tuple(["act", 3, 2, 2])])
        self.assertEqual((Element(S3, A) * Element(again, B)).value_now, ((1, 1),))


class Equal(unittest.TestCase):
    def test_elements(self):
        for rule, parts in SAMPLES[:12]:
            for element, other in product(parts, repeat=2):
                for one, late in product((Element(rule, element), Derived(rule, element)),
                                         (Element(rule, other), Derived(rule, other))):
                    self.assertIs(one == late, element == other)
                    self.assertIs(one != late, element != other)

    def test_rules(self):
        zeros = [Element((piece,), (0,)) for piece in (("ring", 2), ("ring", 3))]
        self.assertIs(zeros[0] == zeros[1], False)
        pairs = [Element((("act", 3, 2, u),), A) for u in (1, 2)]
        self.assertIs(pairs[0] == pairs[1], False)

    def test_any_values(self):
        one = Element(S3, A)
        for thing in any_values() + [A, S3, (S3, A), Element]:
            self.assertIs(one == thing, False)
            self.assertIs(thing == one, False)
            self.assertIs(one != thing, True)


class OfOnePart(unittest.TestCase):
    def test_all_parts(self):
        for rule in [*SMALL_RULES, MIXED]:
            for at, piece in enumerate(rule):
                for part in plain_parts(piece):
                    right = list(one_of(rule))
                    right[at] = part
                    for one in (Placed(rule, at, part), Placed(part=part, index=at, rule=rule)):
                        self.assertEqual(written(one.value_now), written(tuple(right)))
                        self.assertEqual(written([one.rule_now, one.index_now]), written([rule, at]))
                        self.assertIs(one == Element(rule, tuple(right)), True)
                        self.assertIs(Element(rule, tuple(right)) == one, True)
                        self.assertIs(type(one), Placed)
                        self.assertIsInstance(one, Element)

    def test_results_are_elements(self):
        one = Placed(MIXED, 2, 4)
        for made in (one * one, one.back(), one.to_the(3), one.turned_by(one), one * Element(MIXED, SOME),
                     Element(MIXED, SOME) * one, Element(MIXED, SOME).turned_by(one), one.to_the(1)):
            self.assertIs(type(made), Element)
        self.assertEqual([one.order(), str(one), one[2], len(one)], [5, "0,0,0 0,0;0 4", 4, 3])
        self.assertEqual(outcome(lambda: one[3]), refused("index"))

    def test_the_first_that_is_not_as_stated(self):
        for thing in any_values():
            self.assertEqual(outcome(Placed, [S3], thing, thing), refused("rule"))
            if not is_real(thing) or thing not in (0, 1, 2):
                for part in (0, (0, 0), None):
                    self.assertEqual(outcome(Placed, MIXED, thing, part), refused("index"))
        for index, piece in enumerate(MIXED):
            right = [written(part) for part in plain_parts(piece)]
            for thing in any_values() + [SOME, one_of(MIXED)]:
                if written(thing) not in right:
                    self.assertEqual(outcome(Placed, MIXED, index, thing), refused("part"))
        self.assertEqual(outcome(Placed, S3, 1, (1, 0)), refused("index"))
        self.assertEqual(outcome(Placed, S3, -1, (1, 0)), refused("index"))
        self.assertEqual(outcome(Placed, S3, False, (1, 0)), refused("index"))
        self.assertEqual(outcome(Placed, S3, 0, A), refused("part"))
        self.assertEqual(outcome(Placed, S3, 0, (1, False)), refused("part"))

    def test_the_product_of_all_is_the_element(self):
        rules = [rule for rule in [*SMALL_RULES, MIXED, HUGE] if len(rule) > 1]
        for rule in rules:
            for element in GREAT_RULES[rule] if rule in GREAT_RULES else all_of(rule)[::7]:
                for places in permutations(range(len(rule))):
                    result = Element(rule, one_of(rule))
                    for at in places:
                        result = result * Placed(rule, at, element[at])
                    self.assertEqual(result.value_now, element)
                    self.assertIs(result == Element(rule, element), True)


class NeverChanged(unittest.TestCase):
    def test_by_no_use(self):
        for one, value in ((Element(S3, A), A), (Placed(S3, 0, (1, 0)), A)):
            for call in (lambda: one * Element(S3, B), lambda: one * B, lambda: one.back(), lambda: one.to_the(7),
                         lambda: one.to_the("7"), lambda: one.turned_by(Element(S3, B)), lambda: one.turned_by(A),
                         lambda: one[0], lambda: one[1], lambda: list(one), lambda: str(one), lambda: one.order(),
                         lambda: one == one, lambda: len(one)):
                try:
                    call()
                except GroupError:
                    pass
                self.assertEqual([one.rule_now, one.value_now, one.order()], [S3, value, 3])

    def test_in_place_signs_leave_the_object(self):
        one = kept = Element(S3, A)
        one *= Element(S3, B)
        self.assertEqual([one.value_now, kept.value_now], [((1, 1),), A])

    def test_properties_are_not_assigned(self):
        for name in ("rule_now", "value_now", "index_now"):
            with self.assertRaises(AttributeError):
                setattr(Placed(S3, 0, (1, 0)), name, ())

    def test_two_at_once(self):
        one, other = Element(S3, A), Element(MIXED, SOME)
        self.assertEqual([one.order(), other.order(), len(one), len(other)], [3, 60, 1, 3])
        self.assertEqual([one.value_now, other.value_now], [A, SOME])
