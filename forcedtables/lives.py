"""Live numbers, which follow a count prime by prime.

A live number keeps a step for its beginning and one for each event: the event,
None at the beginning, and the count and the hold to which it led. So an event
is taken back by leaving its step away.
"""

from forcedtables.choices import how_many_groups
from forcedtables.countchanges import lifted, lowered
from forcedtables.countparts import has_prime, is_square_free, power_of, primes_of, value_of
from forcedtables.errors import InvalidEvent, NothingToUndo, NotUsable
from forcedtables.eventtexts import event_line
from forcedtables.forced import forces, kinds_forced, reasons_against
from forcedtables.kinds import is_below, is_count, is_event, is_free, is_hold, is_prime, need_kind

MOST_PRIMES = 8
MOST_DIGITS = 40
TOP_END = 201


class Live:
    """A live number: a count that changes by one prime at a time, and a word that is to hold on."""

    MOST = 40
    # How high a power can be, and the reason against a higher one.
    _HIGHEST = 6
    _TOO_HIGH = "power"

    def __init__(self, count, *, hold="off"):
        name = start_fault(count, hold)
        if name is not None:
            raise NotUsable(name, -1)
        self._settle(((None, count, hold),))
        # A call that was started is finished whenever tally can be asked: one number tells both.
        self._calls = 0

    @property
    def count_now(self):
        """The count."""
        return self._steps[-1][1]

    @property
    def value_now(self):
        """The value of the count."""
        return value_of(self.count_now)

    @property
    def hold_now(self):
        """The word that is to hold on, or off."""
        return self._steps[-1][2]

    def words(self):
        """Return the set of the words that hold."""
        return words_held(self.count_now)

    def clashes(self):
        """Return the set of the pairs of primes, of which the second one can act at powers of the first one."""
        return clashes_in(self.count_now)

    def groups(self):
        """Return how many groups the value has if the count is square-free, otherwise None."""
        if not is_square_free(self.count_now):
            return None
        return how_many_groups(self.count_now)

    def fits(self, word, top):
        """Return the set of the new primes below top with which the word would hold."""
        need_kind("word", word)
        if not is_below(top, TOP_END):
            raise NotUsable("top", -1)
        count = self.count_now
        primes = [prime for prime in range(2, top) if is_prime(prime) and not has_prime(count, prime)]
        return tuple([prime for prime in primes if forces(lifted(count, prime), word)])

    def put(self, prime):
        """Put the prime to the count once more, and return which words hold now or no more."""
        self._begin_call()
        return self._apply(("prime", prime))

    def drop(self, prime):
        """Take the prime from the count once, and return which words hold now or no more."""
        self._begin_call()
        return self._apply(("drop", prime))

    def note(self, name):
        """Keep this moment under a name."""
        self._begin_call()
        return self._apply(("note", name))

    def set_hold(self, word):
        """Let this word hold from now on."""
        self._begin_call()
        return self._apply(("hold", word))

    def go(self, event):
        """Apply an event, and return its answer."""
        self._begin_call()
        return self._apply(event)

    def __call__(self, event):
        self._begin_call()
        return self._apply(event)

    def __getitem__(self, at):
        if not has_prime(self.count_now, at):
            raise NotUsable("prime", -1)
        return power_of(self.count_now, at)

    def __contains__(self, x):
        return has_prime(self.count_now, x)

    def __iter__(self):
        return iter(self._primes)

    def __len__(self):
        return len(self._steps[1:])

    def __eq__(self, other):
        return isinstance(other, Live) and self._steps == other._steps

    def __str__(self):
        if len(self._steps) == 1:
            return "-"
        return " / ".join([event_line(event) for event, _, _ in self._steps[1:]])

    def tried(self, *events):
        """Return count and words as they would be behind these events."""
        count = self._led_through(events)[-1][1]
        return count, words_held(count)

    def undo(self):
        """Take the last event back, and return it."""
        self._begin_call()
        if len(self._steps) == 1:
            raise NothingToUndo(0)
        event = self._steps[-1][0]
        self._settle(self._steps[:-1])
        return event

    def do_all(self, *events, keep=False):
        """Apply all events or, if one is not possible, none, or those ahead of it; return how many they are."""
        self._begin_call()
        if not isinstance(keep, bool):
            raise NotUsable("keep", -1)
        if keep:
            self.follow(*events)
        else:
            self._settle(self._led_through(events))
        return len(events)

    def tally(self):
        """Return how many operations were started, and how many of these are finished."""
        return self._calls, self._calls

    def barred(self, event):
        """Return the reason why any value is not possible as an event, or None."""
        return self._reason(self._steps, event)

    def table(self):
        """Return a list with a string for each prime: it, its power, and the primes that can act at its powers."""
        clashes = self.clashes()
        lines = []
        for prime, power in self.count_now:
            acting = ",".join([str(second) for first, second in clashes if first == prime])
            lines.append(f"{prime} {power} {acting or '-'}")
        return lines

    def count_then(self, name):
        """Return the count at the note of this name."""
        for event, count, _ in self._steps:
            if event == ("note", name):
                return count
        raise NotUsable("name", -1)

    def since(self, name):
        """Return which words hold now and did not at the note of this name, and which held then and do no more."""
        return words_between(self.count_then(name), self.count_now)

    def log(self):
        """Return the beginning, and the events behind it."""
        _, count, hold = self._steps[0]
        return (("live", count, hold), *[event for event, _, _ in self._steps[1:]])

    def follow(self, *events):
        """Apply these events, up to the first one that is not possible, without a trace in the tally."""
        for event in events:
            self._settle(self._led(self._steps, event))

    def _begin_call(self):
        """Count a call of an operation."""
        self._calls = self._calls + 1

    def _settle(self, steps):
        """Go over to these steps."""
        self._steps = steps
        self._primes = primes_of(steps[-1][1])

    def _apply(self, event):
        """Apply an event, and give its answer."""
        before = self.count_now
        self._settle(self._led(self._steps, event))
        if event[0] in ("note", "hold"):
            return None
        return words_between(before, self.count_now)

    def _led_through(self, events):
        """Give the steps behind these events, or raise InvalidEvent for the first one that is not possible."""
        steps = self._steps
        for event in events:
            steps = self._led(steps, event)
        return steps

    def _led(self, steps, event):
        """Give these steps with that of the event behind them, or raise InvalidEvent."""
        reason = self._reason(steps, event)
        if reason is not None:
            raise InvalidEvent(event, reason)
        return (*steps, step_behind(steps[-1], event))

    def _reason(self, steps, event):
        """Give the reason why any value is not possible as an event behind these steps, or None."""
        if not is_event(event):
            return "shape"
        if len(steps) > Live.MOST:
            return "full"
        _, count, hold = steps[-1]
        word, about = event
        if word == "prime":
            return self._prime_reason(count, hold, about)
        if word == "drop":
            return None if has_prime(count, about) else "absent"
        if word == "note":
            return "twice" if event in [step[0] for step in steps] else None
        if about == hold:
            return "same"
        return None if does_hold(count, about) else "false"

    def _prime_reason(self, count, hold, prime):
        """Give the reason why the prime cannot be put to the count while this is held, or None."""
        if power_of(count, prime) >= self._HIGHEST:
            return self._TOO_HIGH
        more = lifted(count, prime)
        if len(more) > MOST_PRIMES:
            return "many"
        if not has_digits(more):
            return "great"
        return None if does_hold(more, hold) else "held"


class Flat(Live):
    """A live number whose count stays square-free."""

    _HIGHEST = 1
    _TOO_HIGH = "square"

    def __init__(self, count, *, hold="off"):
        if not is_free(count):
            raise NotUsable("count", -1)
        super().__init__(count, hold=hold)


def start_fault(count, hold):
    """Give the name of the first of any values with which no live number can begin, or None."""
    if not is_count(count) or len(count) > MOST_PRIMES or not has_digits(count):
        return "count"
    if not is_hold(hold) or not does_hold(count, hold):
        return "hold"
    return None


def has_digits(count):
    """Tell whether the value of the count has no more digits than a live number can have."""
    return len(str(value_of(count))) <= MOST_DIGITS


def does_hold(count, word):
    """Tell whether a word can be held by the count: whether it is off or holds."""
    return word == "off" or forces(count, word)


def words_held(count):
    """Give the set of the words that hold for the count."""
    return tuple(sorted(kinds_forced(count)))


def words_between(count, late):
    """Give the set of the words that hold for the late count alone, and that of those for the other one alone."""
    before, after = words_held(count), words_held(late)
    return tuple([word for word in after if word not in before]), tuple([word for word in before if word not in after])


def clashes_in(count):
    """Give the set of the pairs of primes, of which the second one can act at powers of the first one."""
    return tuple(sorted([(other, prime) for _, prime, other, _ in reasons_against(count, "split")]))


def step_behind(step, event):
    """Give the step of an event that is possible behind another step."""
    _, count, hold = step
    word, about = event
    if word == "prime":
        return (event, lifted(count, about), hold)
    if word == "drop":
        return (event, lowered(count, about), hold)
    return (event, count, about if word == "hold" else hold)
