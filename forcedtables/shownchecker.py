"""The checker of what shows that a rule is not of a kind."""

from math import gcd

from forcedtables.errors import InvalidPaper
from forcedtables.kinds import is_positive, is_prime, need_kind
from forcedtables.orders import powers_of
from forcedtables.rulechecker import need_rule
from forcedtables.rules import commutes_with, has_parts, one_of, to_the

WORDS = {"cyclic": ("twins", "apart"), "commute": ("apart",), "split": ("torn",)}
LENGTHS = {"twins": 4, "apart": 3, "torn": 5}


def lets_shown(rule, kind, thing):
    """Return True for what shows that the rule is not of the kind, or raise InvalidPaper."""
    need_rule("rule", rule)
    need_kind("kind", kind)
    fault = shown_fault(rule, kind, thing)
    if fault is not None:
        word, at = fault
        raise InvalidPaper(word, at)
    return True


def shown_fault(rule, kind, thing):
    """Return word and place of the first thing that is wrong with what is shown, or None."""
    if not has_shown_form(kind, thing):
        return ("shape", -1)
    word, first, second = thing[:3]
    if not has_parts(rule, first):
        return ("first", -1)
    if not has_parts(rule, second):
        return ("second", -1)
    if word == "twins":
        return twins_fault(rule, first, second, thing[3])
    if word == "torn":
        fault = torn_fault(rule, first, second, thing[3:])
        if fault is not None:
            return fault
    if commutes_with(rule, first, second):
        return ("apart", -1)
    return None


def has_shown_form(kind, thing):
    """Tell whether any value is a tuple with a word for the kind and as many values as this has."""
    if not isinstance(thing, tuple) or len(thing) == 0:
        return False
    return thing[0] in WORDS[kind] and len(thing) == LENGTHS[thing[0]]


def twins_fault(rule, first, second, prime):
    """Return word and place of what is wrong with two elements as twins, or None."""
    if not is_prime(prime):
        return ("prime", -1)
    fault = power_fault(rule, (first, second), (prime, prime))
    if fault is not None:
        return fault
    if first == one_of(rule):
        return ("one", -1)
    for at, power in enumerate(powers_of(rule, first)):
        if power == second:
            return ("among", at)
    return None


def torn_fault(rule, first, second, numbers):
    """Return word and place of what is wrong with the numbers of two torn elements, or None."""
    for at, number in enumerate(numbers):
        if not is_positive(number):
            return ("number", at)
    shared = gcd(numbers[0], numbers[1])
    if shared > 1:
        return ("common", shared)
    return power_fault(rule, (first, second), numbers)


def power_fault(rule, parts, numbers):
    """Return word and index of the first of the parts whose power by its number is not one, or None."""
    for at, part in enumerate(parts):
        if to_the(rule, part, numbers[at]) != one_of(rule):
            return ("power", at)
    return None
