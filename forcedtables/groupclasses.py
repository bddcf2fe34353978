"""The groups of choices as objects."""

from forcedtables.choicechecker import need_choice
from forcedtables.choices import group_of
from forcedtables.countchanges import common
from forcedtables.errors import NotUsable
from forcedtables.kinds import is_integer
from forcedtables.leading import choice_of
from forcedtables.orderlooks import many_of_order, orders_in


class Group:
    """The group of a choice. It never changes."""

    def __init__(self, count, choice):
        need_choice(count, choice)
        self._count = count
        self._choice = choice
        self._orders = tuple([order for order, many in orders_in(count, choice)])

    @property
    def count_now(self):
        """The count."""
        return self._count

    @property
    def choice_now(self):
        """The choice."""
        return self._choice

    @property
    def rule_now(self):
        """The group as a rule."""
        return group_of(self._count, self._choice)

    @classmethod
    def of(cls, rule):
        """Return the Group to which that of the rule is alike."""
        count, choice = choice_of(rule)
        return Group(count, choice)

    def __getitem__(self, at):
        return many_of_order(self._count, self._choice, at)

    def __contains__(self, x):
        return is_integer(x) and x in self._orders

    def __len__(self):
        return len(self._orders)

    def __iter__(self):
        return iter(self._orders)

    def __eq__(self, other):
        return isinstance(other, Group) and self._count == other._count and self._choice == other._choice

    def __mul__(self, other):
        if not isinstance(other, Group) or common(self._count, other.count_now) != ():
            raise NotUsable("other", -1)
        return Group.of(self.rule_now + other.rule_now)
