"""The checker of rules and their pieces, and the demand that an argument is a rule."""

from math import gcd

from forcedtables.errors import InvalidPaper, NotUsable
from forcedtables.kinds import is_below, is_positive, is_power, is_prime
from forcedtables.powering import raised, raised_modulo, table_one, table_raised

PIECE_LENGTHS = {"ring": 2, "power": 3, "knot": 2, "turn": 4, "act": 4}
MOST_ROWS = 6


def is_piece(thing):
    """Tell whether any value is a piece."""
    return piece_fault(thing, 0) is None


def is_rule(thing):
    """Tell whether any value is a rule."""
    return rule_fault(thing) is None


def lets_rule(thing):
    """Return the order of a rule, or raise InvalidPaper for what is none."""
    fault = rule_fault(thing)
    if fault is not None:
        word, at = fault
        raise InvalidPaper(word, at)
    order = 1
    for piece in thing:
        order = order * piece_order(piece)
    return order


def need_rule(name, thing):
    """Raise NotUsable with the name of the parameter for any value that is no rule."""
    if not is_rule(thing):
        raise NotUsable(name, -1)


def rule_fault(thing):
    """Return word and place of the first thing that is wrong with a rule, or None."""
    if not isinstance(thing, tuple) or len(thing) == 0:
        return ("shape", -1)
    for at, piece in enumerate(thing):
        fault = piece_fault(piece, at)
        if fault is not None:
            return fault
    return None


def piece_fault(thing, at):
    """Return word and place of the first thing that is wrong with the piece of this index, or None."""
    if not has_piece_form(thing):
        return ("piece", at)
    for place, stands in judged_numbers(thing):
        if not stands:
            return ("number", (at, place))
    word = None
    if thing[0] == "turn":
        word = turn_fault(thing)
    if thing[0] == "act":
        word = act_fault(thing)
    if word is None:
        return None
    return (word, at)


def has_piece_form(thing):
    """Tell whether any value is a tuple with the word of a piece and as many values as this has."""
    # A list as the word could not be looked up in the dict, so its kind comes first.
    if not isinstance(thing, tuple) or len(thing) == 0 or not isinstance(thing[0], str):
        return False
    return PIECE_LENGTHS.get(thing[0], 0) == len(thing)


def judged_numbers(piece):
    """Give the place of each number of the piece and whether it can stand there, in order."""
    word, first = piece[0], piece[1]
    if word == "ring":
        return [(1, is_positive(first))]
    if word == "power":
        return [(1, is_prime(first)), (2, is_power(piece[2]))]
    if word == "knot":
        return [(1, is_prime(first))]
    if word == "turn":
        return [(1, is_prime(first)), (3, is_prime(piece[3]))]
    # What stands for u can only be compared with an m that is an integer.
    fits = is_positive(first) and is_below(piece[3], first)
    return [(1, is_positive(first)), (2, is_positive(piece[2])), (3, fits)]


def turn_fault(piece):
    """Return the word for what is wrong with a turn whose p and q are primes, or None."""
    _, prime, rows, other = piece
    if not is_table(rows, prime):
        return "table"
    if prime == other:
        return "primes"
    one = table_one(len(rows))
    if rows == one or table_raised(rows, other, prime) != one:
        return "turned"
    return None


def is_table(thing, prime):
    """Tell whether any value is a square table of one to six rows of numbers below the prime."""
    if not isinstance(thing, tuple) or not 1 <= len(thing) <= MOST_ROWS:
        return False
    return all([is_table_row(row, len(thing), prime) for row in thing])


def is_table_row(thing, size, prime):
    """Tell whether any value is a tuple of so many numbers below the prime."""
    if not isinstance(thing, tuple) or len(thing) != size:
        return False
    return all([is_below(number, prime) for number in thing])


def act_fault(piece):
    """Return the word for what is wrong with an act whose numbers are within their bounds, or None."""
    _, below, many, factor = piece
    if gcd(below, many) > 1:
        return "share"
    # By 1 everything leaves 0, so that also 0 acts there.
    if raised_modulo(factor, many, below) != 1 % below:
        return "act"
    return None


def piece_order(piece):
    """Give how many elements the group of a piece has."""
    word, first = piece[0], piece[1]
    if word == "ring":
        return first
    if word == "power":
        return raised(first, piece[2])
    if word == "knot":
        return raised(first, 3)
    if word == "turn":
        return raised(first, len(piece[2])) * piece[3]
    return first * piece[2]
