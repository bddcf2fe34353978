"""What counts force, as objects."""

from forcedtables.countchanges import times
from forcedtables.countchecker import need_count
from forcedtables.errors import NotUsable
from forcedtables.forced import forces, kinds_forced, reasons_against
from forcedtables.forcedpapers import forced_paper
from forcedtables.kinds import is_integer
from forcedtables.otherwise import rule_against


class Forced:
    """What a count forces of all groups of its value. It never changes."""

    def __init__(self, count):
        need_count("count", count)
        self._count = count
        self._kinds = kinds_forced(count)

    @property
    def of_count(self):
        """The count."""
        return self._count

    def __getitem__(self, at):
        return forces(self._count, at)

    def __call__(self, kind):
        return rule_against(self._count, kind)

    def paper(self, kind):
        """Return a paper on whether each group of the count's value is of the kind."""
        return forced_paper(self._count, kind)

    def __contains__(self, x):
        # True is like 1 to Python, but is none of the integers of a reason.
        if not isinstance(x, tuple) or not all([is_integer(part) for part in x[1:]]):
            return False
        return x in reasons_against(self._count, "cyclic")

    def __len__(self):
        return len(self._kinds)

    def __iter__(self):
        return iter(self._kinds)

    def __str__(self):
        if len(self._kinds) == 0:
            return "-"
        return " ".join(self._kinds)

    def __mul__(self, other):
        if not isinstance(other, Forced):
            raise NotUsable("other", -1)
        return Forced(times(self._count, other.of_count))

    def __eq__(self, other):
        return isinstance(other, Forced) and self._count == other._count
