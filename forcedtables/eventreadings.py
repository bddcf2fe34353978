"""Events and logs that are read from lines."""

from forcedtables.countreadings import count_read, number_read, words_of
from forcedtables.errors import InvalidText
from forcedtables.kinds import is_event, is_hold
from forcedtables.lives import start_fault

EVENT_WORDS = ("prime", "drop", "note", "hold")


def read_event(text):
    """Return the event that the text writes, or raise InvalidText."""
    return event_in_line(text, 0)


def read_log(lines):
    """Return the log that the lines write, or raise InvalidText."""
    if len(lines) == 0:
        raise InvalidText(0, 0)
    log = [start_in_line(lines[0])]
    for line, text in enumerate(lines):
        if line > 0:
            log.append(event_in_line(text, line))
    return tuple(log)


def event_in_line(text, line):
    """Give the event that the text of this line writes, or raise InvalidText."""
    words = words_of(text)
    if words[0] not in EVENT_WORDS:
        raise InvalidText(line, 0)
    if len(words) == 1:
        raise InvalidText(line, 1)
    word, about = words[:2]
    event = (word, number_read(about) if word in ("prime", "drop") else about)
    # What writes no number is None there, and this is no prime.
    if not is_event(event):
        raise InvalidText(line, 1)
    if len(words) > 2:
        raise InvalidText(line, 2)
    return event


def start_in_line(text):
    """Give the first element of a log that the text of its first line writes, or raise InvalidText."""
    words = words_of(text)
    if words[0] != "live":
        raise InvalidText(0, 0)
    if len(words) == 1 or not is_hold(words[1]):
        raise InvalidText(0, 1)
    hold = words[1]
    try:
        # Without any word behind HOLD this is an empty word, which cannot stand, at the place of the missing one.
        count = count_read(" ".join(words[2:]))
    except InvalidText as error:
        raise InvalidText(0, error.field + 2)
    name = start_fault(count, hold)
    if name is not None:
        raise InvalidText(0, 2 if name == "count" else 1)
    return ("live", count, hold)
