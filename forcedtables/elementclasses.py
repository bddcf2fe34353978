"""Elements of rules as objects."""

from forcedtables.elementtexts import element_text
from forcedtables.errors import NotUsable
from forcedtables.kinds import is_below
from forcedtables.orders import order_of
from forcedtables.rulechecker import need_rule
from forcedtables.rules import back, has_parts, is_part, put_together, to_the, turned_by, with_part


class Element:
    """An element of a rule. It never changes."""

    def __init__(self, rule, value):
        need_rule("rule", rule)
        if not has_parts(rule, value):
            raise NotUsable("value", -1)
        self._rule = rule
        self._value = value

    @property
    def rule_now(self):
        """The rule."""
        return self._rule

    @property
    def value_now(self):
        """The element itself."""
        return self._value

    def order(self):
        """Return the order of the element."""
        return order_of(self._rule, self._value)

    def back(self):
        """Return the Element that gives one together with it."""
        return Element(self._rule, back(self._rule, self._value))

    def to_the(self, times):
        """Return the Element, so many times put together."""
        return Element(self._rule, to_the(self._rule, self._value, times))

    def turned_by(self, other):
        """Return the Element of back of other, it and other put together."""
        return Element(self._rule, turned_by(self._rule, self._value, value_behind(self._rule, other)))

    def __mul__(self, other):
        return Element(self._rule, put_together(self._rule, self._value, value_behind(self._rule, other)))

    def __getitem__(self, at):
        if not is_below(at, len(self._value)):
            raise NotUsable("index", -1)
        return self._value[at]

    def __len__(self):
        return len(self._value)

    def __iter__(self):
        return iter(self._value)

    def __str__(self):
        return str(element_text(self._rule, self._value))

    def __eq__(self, other):
        return isinstance(other, Element) and self._rule == other._rule and self._value == other._value


class Placed(Element):
    """The Element with a part at one piece and what changes nothing at all others. It never changes."""

    def __init__(self, rule, index, part):
        need_rule("rule", rule)
        if not is_below(index, len(rule)):
            raise NotUsable("index", -1)
        if not is_part(rule[index], part):
            raise NotUsable("part", -1)
        super().__init__(rule, with_part(rule, index, part))
        self._index = index

    @property
    def index_now(self):
        """The index of the piece of the part."""
        return self._index


def value_behind(rule, other):
    """Give the value of an Element of this rule, or raise NotUsable for any other value."""
    if not isinstance(other, Element) or other.rule_now != rule:
        raise NotUsable("other", -1)
    return other.value_now
