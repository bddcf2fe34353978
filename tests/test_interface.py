"""The interface: names, places, parameters, kinds of results, and any value at each parameter ([2], [12])."""

import copy
import importlib
import inspect
import unittest

from forcedtables.lives import Live
from forcedtables.rulechecker import is_rule
from tests.choicesamples import is_free_rule, is_real_free
from tests.samples import (EVERY_PRIME, FIFTEEN, FORTY, FOUR, MIXED, S3, SIX, THIRTY, all_of, any_values, faulty,
                           is_real, is_real_count, is_real_prime, outcome, refused, written)

A, B = ((1, 0),), ((0, 1),)
CHOICE = ((2, (1,)),)
GENERATOR = type(part for part in ())

# Module, function, its parameters with a value that can be used, the kinds of its results.
FUNCTIONS = [
    ("kinds", "is_integer", {"thing": 2}, (bool,)),
    ("kinds", "is_number", {"thing": 2}, (bool,)),
    ("kinds", "is_prime", {"thing": 2}, (bool,)),
    ("kinds", "is_count", {"thing": FORTY}, (bool,)),
    ("kinds", "is_choice", {"count": SIX, "thing": ((2, (1,)),)}, (bool,)),
    ("kinds", "is_name", {"thing": "a"}, (bool,)),
    ("kinds", "is_event", {"thing": ("prime", 2)}, (bool,)),
    ("rulechecker", "is_piece", {"thing": FOUR}, (bool,)),
    ("rulechecker", "is_rule", {"thing": (FOUR,)}, (bool,)),
    ("rulechecker", "lets_rule", {"thing": (FOUR,)}, (int,)),
    ("countchecker", "lets_count", {"thing": FORTY}, (int,)),
    ("countparts", "value_of", {"count": FORTY}, (int,)),
    ("countparts", "primes_of", {"count": FORTY}, (tuple,)),
    ("countparts", "power_of", {"count": FORTY, "prime": 2}, (int,)),
    ("countparts", "is_square_free", {"count": FORTY}, (bool,)),
    ("countparts", "how_many_divisors", {"count": FORTY}, (int,)),
    ("countparts", "units_of", {"count": FORTY}, (int,)),
    ("countparts", "count_of", {"number": 40}, (tuple, type(None))),
    ("countchanges", "times", {"count": SIX, "other": FORTY}, (tuple,)),
    ("countchanges", "over", {"count": FORTY, "other": ((2, 1),)}, (tuple,)),
    ("countchanges", "common", {"count": FORTY, "other": THIRTY}, (tuple,)),
    ("countchanges", "joined", {"count": FORTY, "other": THIRTY}, (tuple,)),
    ("countchanges", "does_divide", {"count": FORTY, "other": THIRTY}, (bool,)),
    ("countchanges", "lifted", {"count": FORTY, "prime": 3}, (tuple,)),
    ("countchanges", "lowered", {"count": FORTY, "prime": 2}, (tuple,)),
    ("countchanges", "without_prime", {"count": FORTY, "prime": 2}, (tuple,)),
    ("countchanges", "square_free_of", {"count": FORTY}, (tuple,)),
    ("counttexts", "count_text", {"count": FORTY}, (str,)),
    ("ruletexts", "rule_text", {"rule": MIXED}, (str,)),
    ("countreadings", "count_read", {"text": "2^3 5^1"}, (tuple,)),
    ("rulereadings", "rule_read", {"text": "ring 6 | knot 3"}, (tuple,)),
    ("rules", "is_element", {"rule": S3, "thing": A}, (bool,)),
    ("rules", "one_of", {"rule": S3}, (tuple,)),
    ("rules", "put_together", {"rule": S3, "element": A, "other": B}, (tuple,)),
    ("rules", "back", {"rule": S3, "element": A}, (tuple,)),
    ("rules", "to_the", {"rule": S3, "element": A, "times": 4}, (tuple,)),
    ("rules", "commutes_with", {"rule": S3, "element": A, "other": B}, (bool,)),
    ("rules", "turned_by", {"rule": S3, "element": A, "other": B}, (tuple,)),
    ("rules", "swap_of", {"rule": S3, "element": A, "other": B}, (tuple,)),
    ("orders", "order_of", {"rule": S3, "element": A}, (int,)),
    ("orders", "order_of_rule", {"rule": S3}, (int,)),
    ("orders", "span_of", {"rule": S3}, (int,)),
    ("orders", "powers_of", {"rule": S3, "element": A}, (GENERATOR,)),
    ("placing", "element_at", {"rule": S3, "number": 4}, (tuple,)),
    ("placing", "number_of", {"rule": S3, "element": A}, (int,)),
    ("elementtexts", "element_text", {"rule": S3, "element": A}, (str,)),
    ("elementreadings", "element_read", {"rule": S3, "text": "2;1"}, (tuple,)),
    ("pictures", "table_of", {"rule": S3, "parts": (A, B)}, (tuple,)),
    ("pictures", "picture", {"rule": S3, "parts": (A, B)}, (list,)),
    ("pictures", "story", {"rule": S3, "parts": (A, B)}, (str,)),
    ("forced", "all_cyclic", {"count": FORTY}, (bool,)),
    ("forced", "all_commute", {"count": FORTY}, (bool,)),
    ("forced", "all_split", {"count": FORTY}, (bool,)),
    ("forced", "kinds_forced", {"count": FORTY}, (tuple,)),
    ("forced", "acts_at", {"count": SIX, "prime": 2, "other": 3}, (int, type(None))),
    ("forced", "reasons_against", {"count": SIX, "kind": "split"}, (tuple,)),
    ("forced", "forced_between", {"first": 4, "last": 12, "kind": "commute"}, (tuple,)),
    ("otherwise", "piece_of_act", {"count": SIX, "prime": 2, "other": 3}, (tuple, type(None))),
    ("otherwise", "not_cyclic", {"count": FORTY}, (tuple, type(None))),
    ("otherwise", "not_commuting", {"count": FORTY}, (tuple, type(None))),
    ("otherwise", "not_split", {"count": FORTY}, (tuple, type(None))),
    ("judging", "is_cyclic", {"rule": S3}, (bool,)),
    ("judging", "does_commute", {"rule": S3}, (bool,)),
    ("judging", "does_split", {"rule": S3}, (bool,)),
    ("judging", "shown_against", {"rule": S3, "kind": "split"}, (tuple, type(None))),
    ("shownchecker", "lets_shown", {"rule": S3, "kind": "commute", "thing": ("apart", A, B)}, (bool,)),
    ("forcedpapers", "forced_paper", {"count": SIX, "kind": "split"}, (tuple,)),
    ("forcedchecker", "lets_forced", {"count": FIFTEEN, "kind": "split", "thing": ("all", ((2,), (3,)))}, (bool,)),
    ("choicechecker", "lets_choice", {"count": SIX, "thing": CHOICE}, (int,)),
    ("choices", "root_of", {"prime": 2, "other": 5}, (int,)),
    ("choices", "at_rest", {"count": SIX, "choice": CHOICE}, (tuple,)),
    ("choices", "how_many_groups", {"count": SIX}, (int,)),
    ("choices", "choices_of", {"count": SIX}, (tuple,)),
    ("choices", "group_of", {"count": SIX, "choice": CHOICE}, (tuple,)),
    ("orderlooks", "orders_in", {"count": SIX, "choice": CHOICE}, (tuple,)),
    ("orderlooks", "many_of_order", {"count": SIX, "choice": CHOICE, "order": 2}, (int,)),
    ("orderlooks", "central_in", {"count": SIX, "choice": CHOICE}, (int,)),
    ("leading", "choice_of", {"rule": S3}, (tuple,)),
    ("leading", "are_alike", {"rule": S3, "other": (("ring", 6),)}, (bool,)),
    ("likepapers", "like_paper", {"rule": S3}, (tuple,)),
    ("likepapers", "alike_paper", {"rule": S3, "other": (("ring", 6),)}, (tuple,)),
    ("likechecker", "lets_like", {"rule": S3, "thing": (SIX, CHOICE, A, B)}, (tuple,)),
    ("likechecker", "lets_alike", {"rule": S3, "other": S3, "thing": ((SIX, CHOICE, A, B),) * 2}, (bool,)),
    ("stretches", "groups_between", {"low": 1, "high": 11}, (tuple,)),
    ("stretches", "numbers_with", {"many": 2, "low": 1, "high": 11}, (tuple,)),
    ("replaying", "is_log", {"thing": (("live", SIX, "off"),)}, (bool,)),
]
# Of what these are not handed in as stated, nothing is said, or they return objects: tried with what is stated alone.
OTHERS = [
    ("eventtexts", "event_line", {"event": ("prime", 2)}, (str,)),
    ("eventtexts", "log_lines", {"log": (("live", SIX, "off"), ("drop", 2))}, (list,)),
    ("eventreadings", "read_event", {"text": "prime 2"}, (tuple,)),
    ("eventreadings", "read_log", {"lines": ["live off 1", "prime 2"]}, (tuple,)),
    ("replaying", "replayed", {"log": (("live", SIX, "off"), ("drop", 2))}, (Live,)),
]
# Stages 9 to 12 go through pairs of primes: their counts stay within the limits.
WITHIN_LIMITS = ("forced", "otherwise", "forcedpapers", "forcedchecker")


# What stands in which module, as the document lists it.
INTERFACE = {
    "errors": "GroupError, PaperError, CountError, LiveError, TextError, InvalidPaper, NotUsable, "
              "InvalidEvent, NothingToUndo, InvalidText, InvalidRow",
    "kinds": "is_integer, is_number, is_prime, is_count, is_choice, is_name, is_event",
    "rulechecker": "is_piece, is_rule, lets_rule",
    "countchecker": "lets_count",
    "countparts": "value_of, primes_of, power_of, is_square_free, how_many_divisors, units_of, count_of",
    "countchanges": "times, over, common, joined, does_divide, lifted, lowered, without_prime, square_free_of",
    "counttexts": "count_text",
    "ruletexts": "rule_text",
    "countreadings": "count_read",
    "rulereadings": "rule_read",
    "countclasses": "Count, Free",
    "rules": "is_element, one_of, put_together, product_of, back, to_the, commutes_with, turned_by, swap_of",
    "orders": "order_of, order_of_rule, span_of, powers_of",
    "placing": "element_at, number_of",
    "elementclasses": "Element, Placed",
    "walkers": "Walker",
    "elementtexts": "element_text",
    "elementreadings": "element_read",
    "pictures": "table_of, picture, story",
    "forced": "all_cyclic, all_commute, all_split, kinds_forced, acts_at, reasons_against, forced_between",
    "otherwise": "piece_of_act, not_cyclic, not_commuting, not_split",
    "judging": "is_cyclic, does_commute, does_split, shown_against",
    "shownchecker": "lets_shown",
    "forcedpapers": "forced_paper",
    "forcedchecker": "lets_forced",
    "forcedclasses": "Forced",
    "choicechecker": "lets_choice",
    "choices": "root_of, at_rest, how_many_groups, choices_of, group_of",
    "orderlooks": "orders_in, many_of_order, central_in",
    "leading": "choice_of, are_alike",
    "likepapers": "like_paper, alike_paper",
    "likechecker": "lets_like, lets_alike",
    "stretches": "groups_between, numbers_with",
    "groupclasses": "Group",
    "lives": "Live, Flat",
    "replaying": "is_log, replayed",
    "eventtexts": "event_line, log_lines",
    "eventreadings": "read_event, read_log",
    "desk": "Desk",
}


def is_part_of_s3(thing):
    """Whether it is an element of S3, no True and no False in it."""
    return written(thing) in [written(part) for part in all_of(S3)]


# What a parameter has to be; the elements are those of S3 while the other parameters are as above.
STATED = {
    "count": is_real_count,
    "prime": is_real_prime,
    "number": lambda thing: is_real(thing) and thing >= 1,
    "rule": is_rule,
    "element": is_part_of_s3,
    "times": is_real,
    "kind": lambda thing: type(thing) is str and thing in ("cyclic", "commute", "split"),
    "first": lambda thing: is_real(thing) and 1 <= thing <= 9999,
    "last": lambda thing: is_real(thing) and 1 <= thing < 204,
    "parts": lambda thing: type(thing) is tuple and all(is_part_of_s3(part) for part in thing),
    "choice": lambda thing: written(thing) in (written(()), written(CHOICE)),
    "order": lambda thing: is_real(thing) and thing >= 1,
    "many": lambda thing: is_real(thing) and thing >= 1,
    "low": lambda thing: is_real(thing) and thing >= 1,
    "high": lambda thing: is_real(thing) and 1 <= thing <= 201,
}
# What it has to be in one module.
STATED_THERE = {
    ("rules", "other"): is_part_of_s3,
    ("countchanges", "other"): is_real_count,
    ("placing", "number"): lambda thing: is_real(thing) and 0 <= thing < 6,
    ("forced", "prime"): lambda thing: is_real(thing) and thing in (2, 3),
    ("forced", "other"): lambda thing: is_real(thing) and thing == 3,
    ("otherwise", "prime"): lambda thing: is_real(thing) and thing in (2, 3),
    ("otherwise", "other"): lambda thing: is_real(thing) and thing == 3,
    ("choicechecker", "count"): is_real_free,
    ("choices", "count"): is_real_free,
    ("choices", "other"): lambda thing: is_real_prime(thing) and thing > 2,
    ("orderlooks", "count"): is_real_free,
    ("leading", "rule"): is_free_rule,
    ("leading", "other"): is_free_rule,
    ("likepapers", "rule"): is_free_rule,
    ("likepapers", "other"): is_free_rule,
    ("likechecker", "rule"): is_free_rule,
    ("likechecker", "other"): is_free_rule,
}


def stated_for(module, parameter):
    """What this parameter has to be in the functions of a module, or None if it is judged or read."""
    return STATED_THERE.get((module, parameter), STATED.get(parameter))


def function(module, name):
    """The function of this name in a module of the package."""
    return getattr(importlib.import_module(f"forcedtables.{module}"), name)


def is_plain(thing):
    """Whether it consists of exactly ints, bools, None, strings and tuples, or yields such."""
    if isinstance(thing, GENERATOR):
        return all(is_plain(part) for part in list(thing))
    if type(thing) in (tuple, list):
        return all(is_plain(part) for part in thing)
    return type(thing) in (int, bool, str, type(None))


class Interface(unittest.TestCase):
    def test_each_function_is_defined_in_its_module_with_its_parameters(self):
        for module, name, args, _ in FUNCTIONS + OTHERS:
            found = function(module, name)
            self.assertTrue(inspect.isfunction(found))
            self.assertEqual(found.__module__, f"forcedtables.{module}")
            self.assertEqual(list(inspect.signature(found).parameters), list(args), name)

    def test_by_position_and_by_name(self):
        for module, name, args, kinds in FUNCTIONS + OTHERS:
            called = function(module, name)
            result = called(*args.values())
            self.assertIn(type(result), kinds, name)
            self.assertTrue(is_plain(result) or type(result) is Live, name)
            if type(result) is Live:
                self.assertTrue(called(**args) == result)
                continue
            by_place = outcome(called, *args.values())
            self.assertEqual(outcome(called, **args), by_place, name)
            self.assertEqual(outcome(called, **dict(reversed(args.items()))), by_place, name)

    def test_every_name_of_the_interface_is_there(self):
        for module, names in INTERFACE.items():
            found = importlib.import_module(f"forcedtables.{module}")
            for name in names.split(", "):
                thing = vars(found)[name]
                self.assertTrue(inspect.isfunction(thing) or inspect.isclass(thing), name)
                self.assertEqual(thing.__module__, f"forcedtables.{module}", name)

    def test_each_function_of_the_interface_is_tried_here(self):
        tried = {(module, name) for module, name, _, _ in FUNCTIONS + OTHERS} | {("rules", "product_of")}
        listed = {(module, name) for module, names in INTERFACE.items() for name in names.split(", ")
                  if name[0].islower()}
        self.assertEqual(tried, listed)

    def test_any_number_of_parts(self):
        found = function("rules", "product_of")
        self.assertEqual(found.__module__, "forcedtables.rules")
        rule, parts = inspect.signature(found).parameters.values()
        self.assertEqual([rule.name, parts.name], ["rule", "parts"])
        self.assertEqual([rule.kind, parts.kind], [rule.POSITIONAL_OR_KEYWORD, parts.VAR_POSITIONAL])
        self.assertEqual([found(rule=S3), found(S3), found(S3, A, A, B)], [((0, 0),), ((0, 0),), ((2, 1),)])


class AnyValues(unittest.TestCase):
    def test_each_value_at_each_parameter(self):
        for module, name, args, kinds in FUNCTIONS:
            for parameter in args:
                for thing in any_values():
                    if module not in WITHIN_LIMITS or thing != EVERY_PRIME:
                        self.try_one(module, name, {**args, parameter: thing}, parameter, kinds)

    def try_one(self, module, name, args, parameter, kinds):
        """One value at one parameter, the others being as stated."""
        called = function(module, name)
        before = written(list(args.values()))
        result = outcome(called, *args.values())
        self.assertEqual(outcome(called, **args), result)
        self.assertEqual(written(list(args.values())), before, name)
        if name.startswith("is_") and parameter == "thing":
            self.assertIn(result, ("True", "False"), name)
        stated = stated_for(module, parameter)
        if stated is not None and name != "is_choice":
            if not stated(args[parameter]):
                self.assertEqual(result, refused(parameter), (name, before))
            elif len(args) == 1 or parameter in ("element", "times", "parts", "kind", "last", "choice", "order", "many",
                                                  "high"):
                self.assertIn(type(called(**args)), kinds, name)

    def test_the_first_parameter_that_is_not_as_stated_is_named(self):
        for module, name, args, _ in FUNCTIONS:
            parameters = list(args)
            if "thing" in parameters:
                continue
            called = function(module, name)
            for thing in (None, True, -1, [], "2", ((4, 1),)):
                if parameters != ["text"] or thing != "2":
                    self.assertEqual(outcome(called, **dict.fromkeys(args, thing)), refused(parameters[0]), name)

    def test_a_second_count_that_is_none_comes_before_what_it_does(self):
        for name in ("times", "over", "common", "joined", "does_divide"):
            called = function("countchanges", name)
            for thing in ([(2, 1)], ((2, 7),), ((2, True),), ((True, 1),), 2, None):
                self.assertEqual(outcome(called, ((2, 6),), thing), refused("other"), name)
                self.assertEqual(outcome(called, thing, ((2, 6),)), refused("count"), name)

    def test_of_two_elements_the_first_that_is_none_is_named(self):
        for name in ("put_together", "commutes_with", "turned_by", "swap_of"):
            called = function("rules", name)
            for thing in ((1, 0), [(1, 0)], ((3, 0),), ((True, 0),), (), None, True, "a"):
                self.assertEqual(outcome(called, S3, thing, thing), refused("element"), name)
                self.assertEqual(outcome(called, S3, A, thing), refused("other"), name)
                self.assertEqual(outcome(called, [S3], thing, A), refused("rule"), name)

    def test_lists_are_left_as_they_were(self):
        for module, name, args, _ in FUNCTIONS:
            for thing in ([(1, 0)], ([1, 0],), ([], []), [2, 1], [[2, 1], [3, 1]], ([2, 1], [3, 1]), [FOUR],
                          [["ring", 3]], (["ring", 3], []), ((2, [1]),), ("turn", 2, [[0, 1], [1, 1]], 3)):
                kept = copy.deepcopy(thing)
                for parameter in args:
                    outcome(function(module, name), **{**args, parameter: thing})
                self.assertEqual(thing, kept, name)

    def test_faults_of_checkers_are_tuples_or_integers(self):
        self.assertEqual(outcome(function("countchecker", "lets_count"), [(2, 1)]), faulty("shape", -1))
        self.assertEqual(outcome(function("rulechecker", "lets_rule"), (("ring", 0),)), faulty("number", (0, 1)))
