"""Rules that are read from texts."""

from math import gcd

from forcedtables.countreadings import number_read, words_of
from forcedtables.errors import InvalidText
from forcedtables.kinds import is_positive, is_prime
from forcedtables.rulechecker import PIECE_LENGTHS, is_piece, is_table


def rule_read(text):
    """Return the rule that the text writes, or raise InvalidText."""
    words = words_of(text)
    pieces = []
    piece = ()
    for at, word in enumerate(words):
        if not is_whole(piece):
            piece = piece + (value_read(piece, word),)
            if not can_stand(piece):
                raise InvalidText(0, at)
        elif word == "|":
            pieces.append(piece)
            piece = ()
        else:
            raise InvalidText(0, at)
    if not is_whole(piece):
        raise InvalidText(0, len(words))
    return tuple([*pieces, piece])


def is_whole(piece):
    """Tell whether the values of a piece are as many as its word asks for."""
    return len(piece) > 0 and len(piece) == PIECE_LENGTHS[piece[0]]


def value_read(piece, word):
    """Return what a word writes behind these values of a piece, or None if it writes nothing."""
    if len(piece) == 0:
        return word
    if piece[0] == "turn" and len(piece) == 2:
        return table_read(word)
    return number_read(word)


def table_read(word):
    """Return the rows of numbers that a word writes, with None for what is no number."""
    return tuple([tuple([number_read(part) for part in row.split(",")]) for row in word.split("/")])


def can_stand(piece):
    """Tell whether the last one of the values of a piece can stand behind the others."""
    word, last = piece[0], piece[-1]
    if len(piece) == 1:
        return word in PIECE_LENGTHS
    if is_whole(piece):
        return is_piece(piece)
    if word == "act":
        return is_positive(last) and (len(piece) == 2 or gcd(piece[1], last) == 1)
    if len(piece) == 3:
        return is_table(last, piece[1])
    return is_prime(last)
