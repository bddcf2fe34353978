"""Logs of live numbers, and live numbers that are made from them once more."""

from forcedtables.errors import NotUsable
from forcedtables.kinds import is_event
from forcedtables.lives import Live, start_fault


def is_log(thing):
    """Tell whether any value is a log: a beginning, and events by form behind it."""
    if not isinstance(thing, tuple) or len(thing) == 0:
        return False
    return is_start(thing[0]) and all([is_event(event) for event in thing[1:]])


def is_start(thing):
    """Tell whether any value is the first element of a log, with which a live number can begin."""
    if not isinstance(thing, tuple) or len(thing) != 3 or thing[0] != "live":
        return False
    return start_fault(thing[1], thing[2]) is None


def replayed(log):
    """Return a new Live behind the events of a log."""
    if not is_log(log):
        raise NotUsable("log", -1)
    _, count, hold = log[0]
    live = Live(count, hold=hold)
    events = log[1:]
    live.follow(*events)
    return live
