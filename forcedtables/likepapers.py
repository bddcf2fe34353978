"""Papers on the choice to whose group a rule's is alike, and on whether two rules are alike."""

from forcedtables.choices import multiplied, share_of
from forcedtables.leading import acts_in, choice_of, need_free_rule
from forcedtables.rules import closed, twist_of


def like_paper(rule):
    """Return a paper on the choice to whose group the rule's is alike."""
    count, choice = choice_of(rule)
    acts = acts_in(count, rule)
    return (count, choice, resting_element(rule, acts), turning_element(rule, acts))


def alike_paper(rule, other):
    """Return a paper on whether the groups of both rules are alike."""
    need_free_rule("rule", rule)
    need_free_rule("other", other)
    return (like_paper(rule), like_paper(other))


def resting_element(rule, acts):
    """Give an element whose order is the product of the primes at rest, which all others turn into powers of it."""
    parts = []
    for piece in rule:
        below, _, many = twist_of(piece)
        # Turns by a prime that acts on nothing are at rest: only those by primes that act are left out.
        turns = multiplied([prime for prime, pace, numbers in acts if many % prime == 0])
        parts.append(closed(piece, (1 % below,), turns % many))
    return tuple(parts)


def turning_element(rule, acts):
    """Give an element whose order is the product of the acting primes, each of which acts as the choice says."""
    parts = []
    for piece in rule:
        many = twist_of(piece)[2]
        turns = sum([share_of(prime, many) * pace for prime, pace, numbers in acts if many % prime == 0])
        parts.append(closed(piece, (0,), turns % many))
    return tuple(parts)
