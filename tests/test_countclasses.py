"""Counts as objects: [20], [21]."""

import inspect
import unittest
from itertools import permutations, product

from forcedtables import countclasses
from forcedtables.countchanges import common, does_divide, joined, lifted, lowered, over, times, without_prime
from forcedtables.countchecker import lets_count
from forcedtables.countclasses import Count, Free
from forcedtables.countparts import power_of
from forcedtables.countreadings import count_read
from forcedtables.counttexts import count_text
from forcedtables.errors import GroupError
from tests.samples import (EVERY_PRIME, FIFTEEN, FORTY, PRIMES, SIX, THIRTY, any_values, is_real, is_real_count,
                           is_real_prime, outcome, plain_count, plain_value, refused, some_counts, told_of, written)

COUNTS = some_counts()
FLAT = [count for count in COUNTS if {power for _, power in count} <= {1}]
OPERATORS = {"*": (lambda one, other: one * other, times), "//": (lambda one, other: one // other, over),
             "&": (lambda one, other: one & other, common), "|": (lambda one, other: one | other, joined)}


class Derived(Count):
    """A class derived from Count that adds nothing."""


def count_of_it(call, *args):
    """The count of the Count that a call returns, or its error, as a text."""
    return told_of(Count, "count_now", call, *args)


class Made(unittest.TestCase):
    def test_of_pairs(self):
        for count in COUNTS + [EVERY_PRIME]:
            for made in (Count(*count), Count.of(count), Count.of(count=count)):
                self.assertIs(type(made), Count)
                self.assertEqual(written(made.count_now), written(count))

    def test_errors_are_those_of_lets_count_for_the_tuple_of_pairs(self):
        for thing in any_values():
            for pairs in ((thing,), ((2, 1), thing), ((3, 1), thing, (5, 1))):
                right = outcome(lets_count, pairs)
                made = count_of_it(Count, *pairs)
                self.assertEqual(made, right if right.startswith("InvalidPaper") else written(pairs))
        self.assertEqual(count_of_it(Count, (2, 1), (2, 1)), "InvalidPaper order 0x1")
        self.assertEqual(count_of_it(Count, ((2, 1),)), "InvalidPaper pair 0x0")
        self.assertEqual(count_of_it(Count, [2, 1]), "InvalidPaper pair 0x0")
        self.assertEqual(count_of_it(Count, (2, 7)), "InvalidPaper power 0x0")

    def test_of_any_value(self):
        for thing in any_values():
            right = outcome(lets_count, thing)
            made = count_of_it(Count.of, thing)
            self.assertEqual(made, right if right.startswith("InvalidPaper") else written(thing))
        self.assertEqual(count_of_it(Count.of, [(2, 1)]), "InvalidPaper shape -0x1")
        self.assertEqual(count_of_it(Count.of, Count(*SIX)), "InvalidPaper shape -0x1")

    def test_of_number(self):
        for number in [*range(1, 400), 9973 ** 6, 2 ** 6 * 3 ** 6, 10007, 2 ** 7]:
            count = plain_count(number)
            right = refused("number") if count is None else written(count)
            self.assertEqual(count_of_it(Count.of_number, number), right)
        for thing in any_values():
            if not is_real(thing) or thing < 1 or plain_count(thing) is None:
                self.assertEqual(count_of_it(Count.of_number, thing), refused("number"))
        self.assertEqual(Count.of_number(number=40).count_now, FORTY)

    def test_read(self):
        for count in COUNTS:
            self.assertEqual(count_of_it(Count.read, count_text(count)), written(count))
        for text in ("", "1 1", "5^1 2^3", "2^7", "2^1 ", "2^1  3^1", "\n", 2, None, ["2^1"], True, ("1",)):
            self.assertEqual(count_of_it(Count.read, text), outcome(count_read, text))
        self.assertEqual(Count.read(text="2^3 5^1").count_now, FORTY)

    def test_the_class_methods_are_such(self):
        for name in ("of", "of_number", "read"):
            self.assertIsInstance(vars(Count)[name], classmethod)

    def test_parameters(self):
        for made, name in ((Count, "pairs"), (Free, "primes")):
            parameter, = inspect.signature(made).parameters.values()
            self.assertEqual([parameter.name, parameter.kind], [name, parameter.VAR_POSITIONAL])
        for name, parameters in {"divides": ["other"], "lifted": ["prime"], "lowered": ["prime"], "without": ["prime"],
                                 "of": ["count"], "of_number": ["number"], "read": ["text"]}.items():
            self.assertEqual(list(inspect.signature(getattr(Count(), name)).parameters), parameters)

    def test_classes_and_methods_stand_in_their_file_and_class(self):
        self.assertEqual(Count.__bases__, (object,))
        self.assertEqual(Free.__bases__, (Count,))
        for made in (Count, Free):
            self.assertEqual(made.__module__, countclasses.__name__)
        for name in ("count_now", "value_now", "primes_now"):
            self.assertIsInstance(vars(Count)[name], property)
        self.assertIsInstance(vars(Free)["acting_now"], property)
        for name in ("divides", "lifted", "lowered", "without"):
            self.assertTrue(inspect.isfunction(vars(Count)[name]))


class Told(unittest.TestCase):
    def objects(self):
        """Counts of all three classes, each with its count."""
        made = [(Count(*count), count) for count in COUNTS] + [(Derived(*count), count) for count in COUNTS[::5]]
        return made + [(Free(*[prime for prime, _ in reversed(count)]), count) for count in FLAT]

    def test_properties(self):
        for one, count in self.objects():
            self.assertEqual(written(one.count_now), written(count))
            self.assertEqual(written(one.value_now), written(plain_value(count)))
            self.assertEqual(written(one.primes_now), written(tuple(prime for prime, _ in count)))

    def test_length_pairs_and_text(self):
        for one, count in self.objects():
            self.assertEqual(len(one), len(count))
            self.assertEqual(list(one), list(count))
            self.assertEqual([pair for pair in one], list(count))
            self.assertEqual(dict(one), dict(count))
            self.assertEqual(str(one), count_text(count))
        self.assertEqual([str(Count()), str(Count(*FORTY)), str(Free(3, 2))], ["1", "2^3 5^1", "2^1 3^1"])

    def test_powers(self):
        for one, count in self.objects()[::4]:
            for prime in PRIMES[:6] + [97, 9967, 9973]:
                self.assertEqual(one[prime], dict(count).get(prime, 0))
                self.assertIs(prime in one, prime in dict(count))
            for thing in any_values():
                self.assertEqual(outcome(lambda: one[thing]), outcome(power_of, count, thing))
                self.assertIs(thing in one, is_real_prime(thing) and thing in dict(count))
        for thing in (True, 0, 1, 4, None, "2", (2,), [2], (2, 3), 10007):
            self.assertEqual(outcome(lambda: Count(*FORTY)[thing]), refused("prime"))
            self.assertIs(thing in Count(*FORTY), False)

    def test_objects_as_any_values(self):
        one = Count(*FORTY)
        self.assertIs(Count((2, 1)) in one, False)
        self.assertEqual(outcome(lambda: one[Count((2, 1))]), refused("prime"))
        for call in (one.lifted, one.lowered, one.without):
            self.assertEqual(count_of_it(call, Count((2, 1))), refused("prime"))

    def test_equal(self):
        for (one, count), (other, same) in product(self.objects()[::2], self.objects()[::3]):
            self.assertIs(one == other, count == same)
            self.assertIs(one != other, count != same)

    def test_equal_to_nothing_else(self):
        for thing in any_values():
            self.assertIs(Count() == thing, False)
            self.assertIs(thing == Count(), False)
            if is_real_count(thing):
                self.assertIs(Count(*thing) == thing, False)
                self.assertIs(Count(*thing) == Count(*thing), True)
                self.assertIs(Count(*thing) == Derived(*thing), True)
                self.assertIs(Derived(*thing) == Count(*thing), True)


class Operators(unittest.TestCase):
    def test_all_classes_and_counts(self):
        pairs = list(product(COUNTS[::4], COUNTS[::3])) + list(product(FLAT, FLAT))
        for count, other in pairs:
            ones = [Count(*count), Derived(*count)]
            others = [Count(*other), Derived(*other), other]
            if count in FLAT:
                ones.append(Free(*dict(count)))
            if other in FLAT:
                others.append(Free(*dict(other)))
            for sign, (operator, function) in OPERATORS.items():
                right = outcome(function, count, other)
                for one, late in product(ones, others):
                    self.assertEqual(count_of_it(operator, one, late), right, (sign, count, other))
            for one, late in product(ones, others):
                self.assertIs(one.divides(late), does_divide(count, other))

    def test_any_other_value(self):
        for thing in any_values() + [object, Count]:
            if is_real_count(thing):
                continue
            for one in (Count(*FORTY), Free(2, 5)):
                for operator, _ in OPERATORS.values():
                    self.assertEqual(count_of_it(operator, one, thing), refused("other"))
                self.assertEqual(outcome(one.divides, thing), refused("other"))

    def test_powers_above_six_and_what_does_not_divide(self):
        great = Count((2, 6), (3, 1))
        self.assertEqual(count_of_it(lambda: great * Count((2, 1))), refused("other"))
        self.assertEqual(count_of_it(lambda: great * ((2, 1),)), refused("other"))
        self.assertEqual(count_of_it(lambda: great * Free(2)), refused("other"))
        self.assertEqual(count_of_it(lambda: great // FIFTEEN), refused("other"))
        self.assertEqual(count_of_it(lambda: great // Count((3, 2))), refused("other"))
        self.assertEqual((great // great).count_now, ())

    def test_in_place_signs_leave_the_object(self):
        one = kept = Count(*SIX)
        one *= FIFTEEN
        self.assertEqual([one.count_now, kept.count_now], [((2, 1), (3, 2), (5, 1)), SIX])
        one //= kept
        self.assertEqual([one.count_now, kept.count_now], [FIFTEEN, SIX])

    def test_by_name(self):
        one = Count(*SIX)
        self.assertIs(one.divides(other=THIRTY), True)
        changed = [one.lifted(prime=2), one.lowered(prime=2), one.without(prime=3)]
        self.assertEqual([late.value_now for late in changed], [12, 3, 2])

    def test_one_prime(self):
        for count, prime in product(COUNTS, (2, 3, 97, 9973)):
            ones = [Count(*count), Derived(*count)] + ([Free(*dict(count))] if count in FLAT else [])
            for one in ones:
                self.assertEqual(count_of_it(one.lifted, prime), outcome(lifted, count, prime))
                self.assertEqual(count_of_it(one.lowered, prime), outcome(lowered, count, prime))
                self.assertEqual(count_of_it(one.without, prime), outcome(without_prime, count, prime))

    def test_what_is_no_prime(self):
        for thing in any_values():
            if not is_real_prime(thing):
                for call in (Count(*FORTY).lifted, Count(*FORTY).lowered, Count(*FORTY).without):
                    self.assertEqual(count_of_it(call, thing), refused("prime"))


class NeverChanged(unittest.TestCase):
    def test_by_no_use(self):
        for one, count in ((Count(*FORTY), FORTY), (Free(5, 2, 3), THIRTY)):
            for call in (lambda: one * SIX, lambda: one // SIX, lambda: one & SIX, lambda: one | SIX, lambda: one[2],
                         lambda: one[4], lambda: 2 in one, lambda: one.lifted(2), lambda: one.lowered(2),
                         lambda: one.without(2), lambda: one.divides(SIX), lambda: list(one), lambda: str(one),
                         lambda: one * one, lambda: one == one, lambda: one.lowered(11), lambda: one * None):
                try:
                    call()
                except GroupError:
                    pass
                self.assertEqual([one.count_now, one.value_now], [count, plain_value(count)])

    def test_properties_are_not_assigned(self):
        for name in ("count_now", "value_now", "primes_now", "acting_now"):
            with self.assertRaises(AttributeError):
                setattr(Free(2, 3), name, ())

    def test_what_is_handed_in_stays(self):
        pairs = [(2, 3), (5, 1)]
        one = Count(*pairs)
        pairs.append((7, 1))
        self.assertEqual(one.count_now, FORTY)
        primes = [7, 3, 2]
        self.assertEqual(Free(*primes).count_now, ((2, 1), (3, 1), (7, 1)))
        self.assertEqual(primes, [7, 3, 2])


class Frees(unittest.TestCase):
    def test_in_any_order(self):
        for primes in permutations((2, 3, 5, 9973)):
            one = Free(*primes)
            self.assertEqual(one.count_now, ((2, 1), (3, 1), (5, 1), (9973, 1)))
            self.assertIs(type(one), Free)
            self.assertIsInstance(one, Count)
        self.assertEqual([Free().count_now, Free().acting_now, Free(2).acting_now], [(), (), ()])
        self.assertEqual(Free(*reversed(PRIMES)).primes_now, tuple(PRIMES))

    def test_the_first_that_is_no_prime_or_was_there(self):
        for thing in any_values():
            stands = is_real_prime(thing)
            right = written(((thing, 1),)) if stands else refused("primes", 0)
            self.assertEqual(outcome(lambda: Free(thing).count_now), right)
            if not stands or thing in (3, 2):
                self.assertEqual(outcome(Free, 3, 2, thing, 2, 4), refused("primes", 2))
        self.assertEqual(outcome(Free, 2, 2), refused("primes", 1))
        self.assertEqual(outcome(Free, 2, 3, 5, 2), refused("primes", 3))
        self.assertEqual(outcome(Free, 5, 4, 5), refused("primes", 1))
        self.assertEqual(outcome(Free, 5, 5, 4), refused("primes", 1))
        self.assertEqual(outcome(Free, (2, 1), (3, 1)), refused("primes", 0))
        self.assertEqual(outcome(Free, 2, True), refused("primes", 1))

    def test_acting_now(self):
        for primes in permutations(PRIMES[:9], 3):
            right = tuple(sorted((p, q) for p, q in product(primes, primes) if (q - 1) % p == 0))
            self.assertEqual(written(Free(*primes).acting_now), written(right))
        self.assertEqual(Free(7, 13, 3).acting_now, ((3, 7), (3, 13)))
        self.assertEqual(Free(7, 43, 2, 3).acting_now, ((2, 3), (2, 7), (2, 43), (3, 7), (3, 43), (7, 43)))
        self.assertEqual(Free(5, 3).acting_now, ())

    def test_what_operators_return_is_a_count(self):
        for made in (Free(2, 3) * Free(5), Free(2, 3) // Free(3), Free(2, 3) & Free(3), Free(2) | Free(5),
                     Free(2, 3).lifted(2), Free(2, 3).lowered(2), Free(2, 3).without(2)):
            self.assertIs(type(made), Count)
