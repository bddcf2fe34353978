"""A desk, which is told row by row what to do with a live number, and answers with strings."""

from forcedtables.countreadings import number_read, words_of
from forcedtables.counttexts import count_text
from forcedtables.errors import InvalidRow, InvalidText
from forcedtables.eventreadings import read_event, read_log
from forcedtables.eventtexts import event_line
from forcedtables.kinds import is_kind, is_name, is_prime
from forcedtables.replaying import replayed


class Desk:
    """It has a live number, at first none."""

    def __init__(self):
        self._live = None
        # A call that was started is finished whenever tally can be asked: one number tells both.
        self._calls = 0

    def say(self, row):
        """Return the answer to a row."""
        self._calls = self._calls + 1
        if words_of(row)[0] == "live":
            self._live = begun(row)
            return "ok"
        if self._live is None:
            raise InvalidRow(row)
        return answered(self._live, row)

    def tally(self):
        """Return how many calls of say were started, and how many of these are finished."""
        return self._calls, self._calls


def begun(row):
    """Give the new Live that a row begins."""
    try:
        log = read_log([row])
    except InvalidText:
        raise InvalidRow(row)
    return replayed(log)


def answered(live, row):
    """Give the answer of a live number to a row that does not begin one."""
    words = words_of(row)
    word = words[0]
    if row in BARE:
        action = BARE[row]
        return action(live)
    if word == "bars":
        return said(live.barred(event_in(row, " ".join(words[1:]))))
    if word in ASKING:
        question = ASKING[word]
        return question(live, row, words[1:])
    return said_answer(live.go(event_in(row, row)))


def event_in(row, text):
    """Give the event that a part of a row writes, or raise InvalidRow."""
    try:
        return read_event(text)
    except InvalidText:
        raise InvalidRow(row)


def said(thing):
    """Give what is said for a thing, a dash for None and for nothing."""
    if thing is None or thing == "":
        return "-"
    return str(thing)


def said_set(parts):
    """Give what is said for the parts of a set."""
    return said(" ".join([str(part) for part in parts]))


def said_answer(answer):
    """Give what is said for two sets, or for None."""
    if answer is None:
        return said(answer)
    first, second = answer
    return f"{said_set(first)} / {said_set(second)}"


def said_undo(live):
    """Take the last event back, and give its line."""
    return event_line(live.undo())


def said_events(live):
    """Give how many events there are."""
    return str(len(live))


def said_log(live):
    """Give the lines of the events."""
    return str(live)


def said_hold(live):
    """Give the hold."""
    return live.hold_now


def said_value(live):
    """Give the value of the count."""
    return str(live.value_now)


def said_words(live):
    """Give the words that hold."""
    return said_set(live.words())


def said_groups(live):
    """Give how many groups the value has."""
    return said(live.groups())


def said_count(live):
    """Give the count."""
    return count_text(live.count_now)


def said_clashes(live):
    """Give the pairs of primes of which the second one can act."""
    return said_set([f"{first}:{second}" for first, second in live.clashes()])


def said_table(live):
    """Give the strings of the table."""
    return said(" / ".join(live.table()))


def said_fits(live, row, words):
    """Give the primes below TOP that fit, the words being WORD and TOP, or raise InvalidRow."""
    top = number_read(words[1]) if len(words) == 2 else None
    if top is None or not is_kind(words[0]):
        raise InvalidRow(row)
    return said_set(live.fits(words[0], top))


def said_power(live, row, words):
    """Give the power of PRIME, the one word, or raise InvalidRow."""
    prime = number_read(words[0]) if len(words) == 1 else None
    if not is_prime(prime):
        raise InvalidRow(row)
    return str(live[prime])


def said_then(live, row, words):
    """Give the count at the note NAME, the one word, or raise InvalidRow."""
    return count_text(live.count_then(name_in(row, words)))


def said_since(live, row, words):
    """Give which words hold now or no more since the note NAME, the one word, or raise InvalidRow."""
    return said_answer(live.since(name_in(row, words)))


def name_in(row, words):
    """Give the name that is the one word, or raise InvalidRow."""
    if len(words) != 1 or not is_name(words[0]):
        raise InvalidRow(row)
    return words[0]


BARE = {"undo": said_undo, "events": said_events, "log": said_log, "hold": said_hold, "value": said_value,
        "words": said_words, "groups": said_groups, "count": said_count, "clashes": said_clashes, "table": said_table}
ASKING = {"fits": said_fits, "power": said_power, "then": said_then, "since": said_since}
