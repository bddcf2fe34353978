"""Walkers from element to element."""

from forcedtables.errors import NothingToUndo
from forcedtables.orders import order_of
from forcedtables.rulechecker import need_rule
from forcedtables.rules import element_times, need_element, one_of, put_together


class Walker:
    """It goes from element to element of a rule, at first it is at one."""

    def __init__(self, rule):
        need_rule("rule", rule)
        self._rule = rule
        # Tuples, so that who goes over them is not led on by steps that are gone meanwhile.
        self._steps = ()
        self._places = ()

    @property
    def rule_now(self):
        """The rule."""
        return self._rule

    @property
    def here_now(self):
        """The element where it is."""
        if len(self._places) == 0:
            return one_of(self._rule)
        return self._places[-1]

    @property
    def steps_now(self):
        """The tuple of the elements by which it went."""
        return self._steps

    def step(self, element):
        """Go on by the element behind where it is, and return where it is then."""
        need_element(self._rule, element)
        here = element_times(self._rule, self.here_now, element)
        self._steps = (*self._steps, element)
        self._places = (*self._places, here)
        return here

    def __iadd__(self, other):
        self.step(other)
        return self

    def undo(self):
        """Take the last step back, and return its element."""
        if len(self._steps) == 0:
            raise NothingToUndo(0)
        last = self._steps[-1]
        self._steps = self._steps[:-1]
        self._places = self._places[:-1]
        return last

    def __call__(self, element):
        return put_together(self._rule, element, self.here_now)

    def home(self):
        """Return how often, at least once, all its steps have to be gone from one on to end at one."""
        return order_of(self._rule, self.here_now)

    def __len__(self):
        return len(self._steps)

    def __iter__(self):
        return iter(self._places)

    def __eq__(self, other):
        return isinstance(other, Walker) and self._rule == other._rule and self._steps == other._steps
