"""Live numbers told once more in a plain way, from their beginning and their events, for the tests."""

from itertools import product
from string import ascii_lowercase

from forcedtables.lives import Flat, Live
from tests.choicesamples import plain_many
from tests.kindsamples import KINDS, plain_forces
from tests.samples import FIFTEEN, FORTY, PRIMES, SIX, THIRTY, is_real_count, is_real_prime, plain_value, written

HOLDS = ("off", "cyclic", "commute", "split")
EIGHTS = tuple((prime, 1) for prime in PRIMES[:8])
ODDS = tuple((prime, 1) for prime in PRIMES[-8:])  # no prime of these acts on another one
# Of forty digits: no prime more can come.
LARGE = ((9941, 3), (9949, 3), (9967, 3), (9973, 1))
STARTS = [(), ((2, 1),), SIX, FIFTEEN, THIRTY, FORTY, ((3, 2), (5, 1)), ((2, 6),), ((9973, 6),), EIGHTS, ODDS, LARGE,
          ((3, 1), (5, 1), (17, 1)), ((2, 5), (3, 6)), tuple((prime, 1) for prime in PRIMES[1:8]), ((2, 2), (3, 1))]
NAMES = ("a", "b", "zz", "abcdefgh")
# Events by form of each kind, and what is none.
EVENTS = [*product(("prime", "drop"), (2, 3, 5, 7, 11, 17, 23, 9967, 9973)), *product(("note",), NAMES),
          *product(("hold",), HOLDS)]
NO_EVENTS = [None, True, 0, 2, "", "prime", "prime 2", (), ("prime",), ("prime", 2, 2), ["prime", 2], ("prime", 4),
             ("prime", True), ("prime", "2"), ("prime", -2), ("prime", 10007), ("prime", (2,)), ("prime", None),
             ("drop", 1), ("drop", 0), ("drop", [2]), ("put", 2), ("Prime", 2), (None, 2), (["prime"], 2), ("note", ""),
             ("note", "abcdefghi"), ("note", "A"), ("note", "a b"), ("note", "a\n"), ("note", 2), ("note", None),
             ("note", ("a",)), ("hold", "on"), ("hold", ""), ("hold", None), ("hold", ["off"]), ("hold", True),
             (("prime", 2),), ("live", 2), ("undo", ""), ("prime", []), [], [("prime", 2)]]


class Derived(Live):
    """A class derived from Live that adds nothing."""


def is_real_event(thing):
    """Whether any value is an event by form, by [64]."""
    if type(thing) is not tuple or len(thing) != 2 or type(thing[0]) is not str:
        return False
    word, about = thing
    if word in ("prime", "drop"):
        return is_real_prime(about)
    if type(about) is not str:
        return False
    if word == "note":
        return 1 <= len(about) <= 8 and all(sign in ascii_lowercase for sign in about)
    return word == "hold" and about in HOLDS


def plain_words(count):
    """The set of the words that hold, by [65]."""
    return tuple(sorted(kind for kind in KINDS if plain_forces(count, kind)))


def can_start(count, hold):
    """Whether a live number can begin with any two values, by [67]: 'count', 'hold' or None."""
    if not is_real_count(count) or len(count) > 8 or plain_value(count) >= 10 ** 40:
        return "count"
    if type(hold) is not str or hold not in HOLDS or (hold != "off" and hold not in plain_words(count)):
        return "hold"
    return None


def plain_state(count, hold, events):
    """Count, hold and notes behind events that are possible, by [65]."""
    powers, notes = dict(count), {}
    for word, about in events:
        if word == "prime":
            powers[about] = powers.get(about, 0) + 1
        if word == "drop":
            powers[about] -= 1
            powers = {prime: power for prime, power in powers.items() if power}
        if word == "note":
            notes[about] = tuple(sorted(powers.items()))
        if word == "hold":
            hold = about
    return tuple(sorted(powers.items())), hold, notes


def plain_reason(start, events, event, flat=False):
    """The reason why any value is not possible as an event behind these, by [66] and [73], or None."""
    if not is_real_event(event):
        return "shape"
    if len(events) >= 40:
        return "full"
    count, hold, notes = plain_state(*start, events)
    word, about = event
    if word == "prime":
        power = dict(count).get(about, 0)
        if flat and power:
            return "square"
        if power == 6:
            return "power"
        more = plain_state(*start, [*events, event])[0]
        if len(more) > 8:
            return "many"
        if plain_value(more) >= 10 ** 40:
            return "great"
        return "held" if hold != "off" and hold not in plain_words(more) else None
    if word == "drop":
        return None if about in dict(count) else "absent"
    if word == "note":
        return "twice" if about in notes else None
    if about == hold:
        return "same"
    return "false" if about != "off" and about not in plain_words(count) else None


def plain_change(before, after):
    """The pair of the set of the words that hold after alone, and that of those that hold before alone."""
    one, two = set(plain_words(before)), set(plain_words(after))
    return tuple(sorted(two - one)), tuple(sorted(one - two))


def plain_answer(start, events, event):
    """The answer to an event that is possible, by [65]."""
    if event[0] in ("note", "hold"):
        return None
    return plain_change(plain_state(*start, events)[0], plain_state(*start, [*events, event])[0])


def plain_clashes(count):
    """The set of the clashes of a count, by [68]."""
    return tuple(sorted((p, q) for p, power in count for q, _ in count
                        if p != q and any((p ** i - 1) % q == 0 for i in range(1, power + 1))))


def plain_line(event):
    """The line of an event, by [76]."""
    return f"{event[0]} {event[1]}"


def plain_table(count):
    """The strings of the table of a count, by [72]."""
    clashes = plain_clashes(count)
    return [f"{p} {power} " + (",".join(str(q) for one, q in clashes if one == p) or "-") for p, power in count]


def plain_looks(start, events):
    """What a live number tells of itself behind these events, as a text."""
    count, hold, notes = plain_state(*start, events)
    groups = plain_many(count) if all(power == 1 for _, power in count) else None
    log = (("live", *start), *events)
    lines = " / ".join(plain_line(event) for event in events) or "-"
    return written([count, plain_value(count), hold, plain_words(count), plain_clashes(count), groups, log, lines,
                    len(events), bool(events), [p for p, _ in count], plain_table(count),
                    [[then, plain_change(then, count)] for _, then in sorted(notes.items())]])


def looks(live):
    """What a live number tells of itself, as a text."""
    notes = sorted(event[1] for event in live.log()[1:] if event[0] == "note")
    return written([live.count_now, live.value_now, live.hold_now, live.words(), live.clashes(), live.groups(),
                    live.log(), str(live), len(live), bool(live), list(live), live.table(),
                    [[live.count_then(name), live.since(name)] for name in notes]])


def behind(kind, start, events):
    """A live number of this class that began so, behind these events."""
    live = kind(start[0], hold=start[1])
    live.do_all(*events)
    return live


def starts():
    """Beginnings, each count with each hold with which it can begin."""
    return [(count, hold) for count in STARTS for hold in HOLDS if can_start(count, hold) is None]


def walks(random, kind, many, length):
    """Beginnings with events that are possible one behind the other, taken as random says."""
    found = []
    for _ in range(many):
        count, hold = start = random.choice(starts())
        if kind is Flat and any(power > 1 for _, power in count):
            start = (tuple((prime, 1) for prime, _ in count), "off")
        events = []
        for _ in range(length):
            event = random.choice(EVENTS)
            if plain_reason(start, events, event, kind is Flat) is None:
                events.append(event)
        found.append((start, events))
    return found
