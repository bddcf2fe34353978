"""How a rule is written."""

from forcedtables.rulechecker import need_rule


def rule_text(rule):
    """Return the text of the rule."""
    need_rule("rule", rule)
    return " | ".join([piece_text(piece) for piece in rule])


def piece_text(piece):
    """Give the words of a piece."""
    return " ".join([value_text(value) for value in piece])


def value_text(value):
    """Give the word of a value of a piece: a word already, a number or a table."""
    if isinstance(value, tuple):
        return "/".join([row_text(row) for row in value])
    return str(value)


def row_text(row):
    """Give the numbers of a row with commas between."""
    return ",".join([str(number) for number in row])
