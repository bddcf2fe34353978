"""Papers on what a count forces."""

from forcedtables.forced import rows_of
from forcedtables.judging import shown_against
from forcedtables.otherwise import rule_against


def forced_paper(count, kind):
    """Return a paper on whether each group of the count's value is of the kind."""
    rule = rule_against(count, kind)
    if rule is None:
        return ("all", rows_of(count))
    return ("otherwise", rule, shown_against(rule, kind))
