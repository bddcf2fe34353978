"""How the events of live numbers, and their logs, are written."""

from forcedtables.counttexts import count_text


def event_line(event):
    """Return the line of an event."""
    word, about = event
    return f"{word} {about}"


def log_lines(log):
    """Return the list of the lines of a log."""
    _, count, hold = log[0]
    return [f"live {hold} {count_text(count)}"] + [event_line(event) for event in log[1:]]
