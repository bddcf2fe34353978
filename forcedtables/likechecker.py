"""The checkers of papers on the choices to which rules are led, and on whether rules are alike."""

from forcedtables.choices import at_rest, group_of
from forcedtables.countparts import value_of
from forcedtables.errors import InvalidPaper
from forcedtables.kinds import is_choice, is_free, is_pair
from forcedtables.leading import need_free_rule
from forcedtables.rulechecker import lets_rule
from forcedtables.rules import has_parts, one_of, put_together, to_the


def lets_like(rule, thing):
    """Return the count and the choice of a paper on a rule, or raise InvalidPaper."""
    need_free_rule("rule", rule)
    fault = like_fault(rule, thing)
    if fault is not None:
        word, at = fault
        raise InvalidPaper(word, at)
    return thing[:2]


def lets_alike(rule, other, thing):
    """Return what a paper states: whether the groups of both rules are alike, or raise InvalidPaper."""
    need_free_rule("rule", rule)
    need_free_rule("other", other)
    if not is_pair(thing):
        raise InvalidPaper("shape", -1)
    for at, one in enumerate((rule, other)):
        if like_fault(one, thing[at]) is not None:
            raise InvalidPaper("paper", at)
    first, second = thing
    return first[:2] == second[:2]


def like_fault(rule, thing):
    """Return word and place of the first thing that is wrong with a paper on a rule, or None."""
    if not isinstance(thing, tuple) or len(thing) != 4:
        return ("shape", -1)
    count, choice = thing[:2]
    if not is_free(count) or value_of(count) != lets_rule(rule):
        return ("count", -1)
    if not is_choice(count, choice):
        return ("choice", -1)
    for at, part in enumerate(thing[2:]):
        if not has_parts(rule, part):
            return ("part", at)
    return element_fault(rule, thing)


def element_fault(rule, paper):
    """Return word and place of what keeps the two elements of a paper from being put together as it says, or None."""
    count, choice, first, second = paper
    _, below, many, factor = group_of(count, choice)[0]
    if not is_one(rule, first, below):
        return ("power", 0)
    if not is_one(rule, second, many):
        return ("power", 1)
    turned = put_together(rule, to_the(rule, first, factor), second)
    if put_together(rule, second, first) != turned:
        return ("turned", -1)
    for at, prime in enumerate(at_rest(count, choice)):
        if is_one(rule, first, below // prime):
            return ("rest", at)
    for at, pair in enumerate(choice):
        if is_one(rule, second, many // pair[0]):
            return ("acts", at)
    return None


def is_one(rule, element, times):
    """Tell whether the element, so many times put together, is one."""
    return to_the(rule, element, times) == one_of(rule)
