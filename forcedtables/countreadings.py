"""Counts that are read from texts."""

from forcedtables.errors import InvalidText, NotUsable
from forcedtables.kinds import pair_fault

DIGITS = "0123456789"
MOST_DIGITS = 60


def count_read(text):
    """Return the count that the text writes, or raise InvalidText."""
    words = words_of(text)
    if words == ["1"]:
        return ()
    if words[0] == "1":
        raise InvalidText(0, 1)
    pairs = []
    before = 0
    for at, word in enumerate(words):
        pair = tuple([number_read(part) for part in word.split("^")])
        if pair_fault(pair, before) is not None:
            raise InvalidText(0, at)
        pairs.append(pair)
        before = pair[0]
    return tuple(pairs)


def words_of(text):
    """Return the words of a text, at least one, or raise NotUsable for what is no string."""
    if not isinstance(text, str):
        raise NotUsable("text", -1)
    # Only a single space parts words: a second one leaves an empty word, a newline parts none.
    return text.split(" ")


def number_read(word, digits=MOST_DIGITS):
    """Return the number that a word of at most so many digits writes, or None if it writes none."""
    if not 1 <= len(word) <= digits or not all([sign in DIGITS for sign in word]):
        return None
    if word[0] == "0" and len(word) > 1:
        return None
    return int(word)
