"""The interface: names, places, parameters, kinds of results, and any value at each parameter ([2], [12])."""

import copy
import importlib
import inspect
import unittest

from tests.samples import (FORTY, FOUR, SIX, THIRTY, any_values, faulty, is_real, is_real_count, is_real_prime,
                           outcome, refused, written)

# Module, function, its parameters with a value that can be used, the kinds of its results.
FUNCTIONS = [
    ("kinds", "is_integer", {"thing": 2}, (bool,)),
    ("kinds", "is_number", {"thing": 2}, (bool,)),
    ("kinds", "is_prime", {"thing": 2}, (bool,)),
    ("kinds", "is_count", {"thing": FORTY}, (bool,)),
    ("kinds", "is_choice", {"count": SIX, "thing": ((2, (1,)),)}, (bool,)),
    ("kinds", "is_name", {"thing": "a"}, (bool,)),
    ("kinds", "is_event", {"thing": ("prime", 2)}, (bool,)),
    ("rulechecker", "is_piece", {"thing": FOUR}, (bool,)),
    ("rulechecker", "is_rule", {"thing": (FOUR,)}, (bool,)),
    ("rulechecker", "lets_rule", {"thing": (FOUR,)}, (int,)),
    ("countchecker", "lets_count", {"thing": FORTY}, (int,)),
    ("countparts", "value_of", {"count": FORTY}, (int,)),
    ("countparts", "primes_of", {"count": FORTY}, (tuple,)),
    ("countparts", "power_of", {"count": FORTY, "prime": 2}, (int,)),
    ("countparts", "is_square_free", {"count": FORTY}, (bool,)),
    ("countparts", "how_many_divisors", {"count": FORTY}, (int,)),
    ("countparts", "units_of", {"count": FORTY}, (int,)),
    ("countparts", "count_of", {"number": 40}, (tuple, type(None))),
    ("countchanges", "times", {"count": SIX, "other": FORTY}, (tuple,)),
    ("countchanges", "over", {"count": FORTY, "other": ((2, 1),)}, (tuple,)),
    ("countchanges", "common", {"count": FORTY, "other": THIRTY}, (tuple,)),
    ("countchanges", "joined", {"count": FORTY, "other": THIRTY}, (tuple,)),
    ("countchanges", "does_divide", {"count": FORTY, "other": THIRTY}, (bool,)),
    ("countchanges", "lifted", {"count": FORTY, "prime": 3}, (tuple,)),
    ("countchanges", "lowered", {"count": FORTY, "prime": 2}, (tuple,)),
    ("countchanges", "without_prime", {"count": FORTY, "prime": 2}, (tuple,)),
    ("countchanges", "square_free_of", {"count": FORTY}, (tuple,)),
]

STATED = {
    "count": is_real_count,
    "other": is_real_count,
    "prime": is_real_prime,
    "number": lambda thing: is_real(thing) and thing >= 1,
}


def function(module, name):
    """The function of this name in a module of the package."""
    return getattr(importlib.import_module(f"forcedtables.{module}"), name)


def is_plain(thing):
    """Whether it consists of exactly ints, bools, None, strings and tuples."""
    if type(thing) is tuple:
        return all(is_plain(part) for part in thing)
    return type(thing) in (int, bool, str, type(None))


class Interface(unittest.TestCase):
    def test_each_function_is_defined_in_its_module_with_its_parameters(self):
        for module, name, args, _ in FUNCTIONS:
            found = function(module, name)
            self.assertTrue(inspect.isfunction(found))
            self.assertEqual(found.__module__, f"forcedtables.{module}")
            self.assertEqual(list(inspect.signature(found).parameters), list(args), name)

    def test_by_position_and_by_name(self):
        for module, name, args, kinds in FUNCTIONS:
            called = function(module, name)
            result = called(*args.values())
            self.assertIn(type(result), kinds, name)
            self.assertTrue(is_plain(result), name)
            self.assertEqual(written(called(**args)), written(result), name)
            self.assertEqual(written(called(**dict(reversed(args.items())))), written(result), name)


class AnyValues(unittest.TestCase):
    def test_each_value_at_each_parameter(self):
        for module, name, args, kinds in FUNCTIONS:
            for parameter in args:
                for thing in any_values():
                    self.try_one(module, name, {**args, parameter: thing}, parameter, kinds)

    def try_one(self, module, name, args, parameter, kinds):
        """One value at one parameter, the others being as stated."""
        called = function(module, name)
        before = written(list(args.values()))
        result = outcome(called, *args.values())
        self.assertEqual(outcome(called, **args), result)
        self.assertEqual(written(list(args.values())), before, name)
        if name.startswith("is_") and parameter == "thing":
            self.assertIn(result, ("True", "False"), name)
        if parameter in STATED and name != "is_choice":
            stated = STATED[parameter](args[parameter])
            if not stated:
                self.assertEqual(result, refused(parameter), (name, before))
            elif parameter in ("count", "number") and len(args) == 1:
                self.assertIn(type(called(**args)), kinds, name)

    def test_the_first_parameter_that_is_not_as_stated_is_named(self):
        for module, name, args, _ in FUNCTIONS:
            parameters = list(args)
            if "thing" in parameters:
                continue
            called = function(module, name)
            for thing in (None, True, -1, [], "2", ((4, 1),)):
                self.assertEqual(outcome(called, **dict.fromkeys(args, thing)), refused(parameters[0]), name)

    def test_a_second_count_that_is_none_comes_before_what_it_does(self):
        for name in ("times", "over", "common", "joined", "does_divide"):
            called = function("countchanges", name)
            for thing in ([(2, 1)], ((2, 7),), ((2, True),), ((True, 1),), 2, None):
                self.assertEqual(outcome(called, ((2, 6),), thing), refused("other"), name)
                self.assertEqual(outcome(called, thing, ((2, 6),)), refused("count"), name)

    def test_lists_are_left_as_they_were(self):
        for module, name, args, _ in FUNCTIONS:
            for thing in ([2, 1], [[2, 1], [3, 1]], ([2, 1], [3, 1]), [FOUR], [["ring", 3]], (["ring", 3], []),
                          ((2, [1]),), ("turn", 2, [[0, 1], [1, 1]], 3)):
                kept = copy.deepcopy(thing)
                for parameter in args:
                    outcome(function(module, name), **{**args, parameter: thing})
                self.assertEqual(thing, kept, name)

    def test_faults_of_checkers_are_tuples_or_integers(self):
        self.assertEqual(outcome(function("countchecker", "lets_count"), [(2, 1)]), faulty("shape", -1))
        self.assertEqual(outcome(function("rulechecker", "lets_rule"), (("ring", 0),)), faulty("number", (0, 1)))
