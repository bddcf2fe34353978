"""How a count is written."""

from forcedtables.countchecker import need_count


def count_text(count):
    """Return the text of the count."""
    need_count("count", count)
    if count == ():
        return "1"
    return " ".join([f"{prime}^{power}" for prime, power in count])
