"""Live numbers: their events, and why one is not possible: [64] to [67], [69], [70], [73]."""

import inspect
import unittest
from itertools import product
from random import Random

from forcedtables import lives
from forcedtables.errors import InvalidEvent
from forcedtables.lives import Flat, Live
from tests.livesamples import (EIGHTS, EVENTS, HOLDS, LARGE, NO_EVENTS, ODDS, STARTS, Derived, behind, can_start,
                               is_real_event, looks, plain_answer, plain_looks, plain_reason, plain_words, starts, walks)
from tests.samples import (FIFTEEN, FORTY, PRIMES, SIX, THIRTY, any_values, is_real_prime, outcome, plain_value, refused,
                           written)

METHODS = {"words": [], "clashes": [], "groups": [], "fits": ["word", "top"], "put": ["prime"], "drop": ["prime"],
           "note": ["name"], "set_hold": ["word"], "go": ["event"], "tried": ["events"], "undo": [],
           "do_all": ["events", "keep"], "tally": [], "barred": ["event"], "table": [], "count_then": ["name"],
           "since": ["name"], "log": []}
KINDS_OF_LIVE = (Live, Derived, Flat)


def barring(event, reason):
    """The outcome of a call that raises InvalidEvent."""
    return f"InvalidEvent {written(event)} {reason}"


def made_by(kind, count, hold):
    """What a class makes of any two values: looks, or the error, as a text."""
    kept = []
    result = outcome(lambda: kept.append(kind(count, hold=hold)))
    return looks(kept[0]) if kept else result


class Made(unittest.TestCase):
    def test_names_and_places(self):
        self.assertEqual([Live.__bases__, Flat.__bases__, Live.__module__, Flat.__module__],
                         [(object,), (Live,), lives.__name__, lives.__name__])
        for kind in (Live, Flat):
            count, hold = inspect.signature(kind).parameters.values()
            self.assertEqual([count.name, hold.name, hold.default], ["count", "hold", "off"])
            self.assertEqual([count.kind, hold.kind], [count.POSITIONAL_OR_KEYWORD, hold.KEYWORD_ONLY])
            self.assertIn("__init__", vars(kind))
        for name in ("count_now", "value_now", "hold_now"):
            self.assertIsInstance(vars(Live)[name], property)
        for name, parameters in METHODS.items():
            self.assertTrue(inspect.isfunction(vars(Live)[name]), name)
            self.assertEqual(list(inspect.signature(getattr(Live(()), name)).parameters), parameters, name)
        for name in ("__call__", "__getitem__", "__contains__", "__iter__", "__len__", "__eq__", "__str__"):
            self.assertTrue(inspect.isfunction(vars(Live)[name]), name)
        self.assertEqual(list(inspect.signature(Live(())).parameters), ["event"])
        self.assertEqual([Live.MOST, Flat.MOST, Live(()).MOST, vars(Live)["MOST"]], [40] * 4)

    def test_all_beginnings(self):
        for count, hold in product(STARTS, HOLDS):
            name = can_start(count, hold)
            for kind in (Live, Derived):
                right = plain_looks((count, hold), []) if name is None else refused(name)
                self.assertEqual(made_by(kind, count, hold), right)
            free = all(power == 1 for _, power in count)
            self.assertEqual(made_by(Flat, count, hold), right if free else refused("count"))
        for count in STARTS:
            self.assertEqual(written([Live(count).hold_now, Live(count=count, hold="off").count_now]),
                             written(["off", count]))

    def test_any_values(self):
        for thing in any_values():
            for kind in KINDS_OF_LIVE:
                free = kind is not Flat or can_start(thing, "off") or all(power == 1 for _, power in thing)
                right = can_start(thing, "off") if free else "count"
                for hold in ("off", thing, None):
                    if right is not None:
                        self.assertEqual(made_by(kind, thing, hold), refused("count"))
                if type(thing) is not str or thing not in HOLDS:
                    self.assertEqual(made_by(kind, SIX, thing), refused("hold"))
                    self.assertEqual(made_by(kind, (), thing), refused("hold"))

    def test_edges(self):
        nine = tuple((prime, 1) for prime in PRIMES[:9])
        self.assertEqual(made_by(Live, nine, "off"), refused("count"))
        self.assertEqual(made_by(Live, nine, "none"), refused("count"))
        self.assertEqual(made_by(Flat, nine, "off"), refused("count"))
        self.assertEqual(len(str(Live(LARGE).value_now)), 40)
        self.assertEqual(made_by(Live, ((9941, 3), (9949, 3), (9967, 3), (9973, 2)), "off"), refused("count"))
        self.assertEqual(made_by(Live, tuple((prime, 6) for prime in PRIMES[:8]), "off"), refused("count"))
        # Just below and just above the least number of forty-one digits.
        below, above = ((2, 6), (3, 6), (5, 6), (7, 6), (11, 6), (13, 6), (17, 3)), ((3, 6), (9949, 5), (9967, 5))
        for count in (below, above, ((2, 5), (5, 5), (9973, 6), (9967, 3)), ((9967, 4), (9973, 6)), ((101, 6), (9973, 6))):
            right = refused("count") if can_start(count, "off") else plain_looks((count, "off"), [])
            self.assertEqual(made_by(Live, count, "off"), right)
        self.assertEqual(made_by(Flat, FORTY, "off"), refused("count"))
        self.assertEqual(made_by(Flat, FORTY, "none"), refused("count"))
        self.assertEqual(made_by(Flat, SIX, "split"), refused("hold"))
        with self.assertRaises(TypeError):
            Live((), "off")


class Walks(unittest.TestCase):
    def test_events_one_by_one_and_back(self):
        random = Random(7)
        for kind in KINDS_OF_LIVE:
            for start, events in walks(random, kind, 25, 70):
                live = kind(start[0], hold=start[1])
                for at, event in enumerate(events):
                    before = looks(live)
                    self.assertEqual(before, plain_looks(start, events[:at]))
                    answer = plain_answer(start, events[:at], event)
                    self.assertEqual(written(live.go(event)), written(answer), (start, events[:at], event))
                    self.assertEqual(written(live.undo()), written(event))
                    self.assertEqual(looks(live), before)
                    self.assertEqual(written(live(event)), written(answer))
                self.assertEqual(looks(live), plain_looks(start, events))
                for at in range(len(events), 0, -1):
                    self.assertEqual(looks(live), plain_looks(start, events[:at]))
                    self.assertEqual(written(live.undo()), written(events[at - 1]))
                self.assertEqual(looks(live), plain_looks(start, []))
                self.assertEqual(outcome(live.undo), "NothingToUndo 0x0")

    def test_all_events_at_each_moment(self):
        random = Random(8)
        for kind in KINDS_OF_LIVE:
            for start, events in walks(random, kind, 9, 60):
                for at in range(0, len(events) + 1, 3):
                    live = behind(kind, start, events[:at])
                    before = looks(live)
                    for event in EVENTS + NO_EVENTS:
                        reason = plain_reason(start, events[:at], event, kind is Flat)
                        self.assertEqual(written(live.barred(event)), written(reason), (start, events[:at], event))
                        if reason is not None:
                            self.assertEqual(outcome(live.go, event), barring(event, reason))
                    self.assertEqual(looks(live), before)

    def test_a_prime_ends_words_alone_and_a_drop_makes_them_alone(self):
        random = Random(9)
        for start, events in walks(random, Live, 20, 60):
            live = Live(start[0], hold=start[1])
            for event in events:
                answer = live.go(event)
                if event[0] == "prime":
                    self.assertEqual(answer[0], ())
                if event[0] == "drop":
                    self.assertEqual(answer[1], ())
                if event[0] in ("note", "hold"):
                    self.assertIsNone(answer)
                self.assertTrue(live.hold_now == "off" or live.hold_now in live.words())
                words = live.words()
                self.assertTrue("cyclic" not in words or "commute" in words)
                self.assertTrue("commute" not in words or "split" in words)
                self.assertIs("split" in words, live.clashes() == ())
                self.assertIs(live.groups() == 1, "cyclic" in words)

    def test_forty_events(self):
        for kind in KINDS_OF_LIVE:
            live = kind(())
            for k in range(20):
                live.put(PRIMES[k])
                live.drop(PRIMES[k])
                self.assertEqual(len(live), 2 * k + 2)
            before = looks(live)
            for event in EVENTS:
                self.assertEqual([live.barred(event), outcome(live.go, event)], ["full", barring(event, "full")])
            for event in NO_EVENTS:
                self.assertEqual(live.barred(event), "shape")
            self.assertEqual(looks(live), before)
            live.undo()
            self.assertEqual([live.barred(("prime", 3)), live.put(3), live.barred(("drop", 3))], [None, ((), ()), "full"])

    def test_the_most_of_live_counts_in_derived_classes_too(self):
        class Short(Live):
            """A class with another value of its own."""
            MOST = 2

        live = Short(())
        self.assertEqual(live.do_all(*[("prime", 2), ("drop", 2)] * 20), 40)
        self.assertEqual(live.barred(("prime", 2)), "full")


class Reasons(unittest.TestCase):
    def follow(self, live, event, reason):
        """See that the live number tells this reason by barred, and by each way to apply the event."""
        before = looks(live)
        self.assertEqual(live.barred(event), reason, event)
        self.assertEqual(live.barred(event=event), reason)
        ways = [live.go, live, live.do_all, live.tried]
        for way in ways:
            self.assertEqual(outcome(way, event), barring(event, reason))
        if is_real_event(event):
            way = {"prime": live.put, "drop": live.drop, "note": live.note, "hold": live.set_hold}[event[0]]
            self.assertEqual(outcome(way, event[1]), barring(event, reason))
        self.assertEqual(looks(live), before)

    def test_shape(self):
        for thing in NO_EVENTS + any_values():
            if not is_real_event(thing):
                for live in (Live(()), Flat(SIX), Derived(FORTY)):
                    self.follow(live, thing, "shape")
                self.assertEqual(outcome(Live(()).put, thing), barring(("prime", thing), "shape")
                                 if not is_real_prime(thing) else "tuple(tuple(),tuple())")

    def test_the_events_of_the_methods(self):
        for thing in any_values():
            live = Live(SIX)
            for way, word in ((live.put, "prime"), (live.drop, "drop"), (live.note, "note"), (live.set_hold, "hold")):
                event = (word, thing)
                reason = plain_reason((SIX, "off"), [], event)
                if reason is not None:
                    self.assertEqual(outcome(way, thing), barring(event, reason))
                else:
                    self.assertEqual(written(way(thing)), written(plain_answer((SIX, "off"), [], event)))
                    live.undo()

    def test_the_very_objects(self):
        about, event = [2], ("prime", [2])
        live = Live(())
        for call in (lambda: live.go(event), lambda: live(event), lambda: live.do_all(event), lambda: live.tried(event)):
            with self.assertRaises(InvalidEvent) as raised:
                call()
            self.assertIs(raised.exception.event, event)
        for call in (live.put, live.drop, live.note, live.set_hold):
            with self.assertRaises(InvalidEvent) as raised:
                call(about)
            self.assertIs(raised.exception.event[1], about)

    def test_power(self):
        live = Live(((2, 6), (3, 5)))
        self.follow(live, ("prime", 2), "power")
        self.assertEqual([live.put(3), live[3]], [((), ()), 6])
        self.follow(live, ("prime", 3), "power")
        # A power of six comes ahead of all that is too much, and of what is held.
        self.follow(Live(((3, 6),), hold="split"), ("prime", 3), "power")
        great = ((9949, 4), (9973, 6))
        self.assertEqual(plain_value(great) // 10 ** 39, 9)
        self.follow(Live(great), ("prime", 9973), "power")
        self.follow(Live(great), ("prime", 9949), "great")
        eight = ((2, 6), *[(prime, 1) for prime in PRIMES[1:8]])
        self.follow(Live(eight), ("prime", 2), "power")

    def test_many(self):
        for count in (EIGHTS, ODDS):
            for prime in (23, 29, 9001):
                self.follow(Live(count), ("prime", prime), "many")
        live = Live(EIGHTS)
        self.assertEqual([live.put(2), live.drop(3), live.put(23)], [((), ())] * 3)
        self.follow(live, ("prime", 3), "many")
        # Ahead of what is too great, and of what is held.
        large = tuple((prime, 1) for prime in PRIMES[-8:-1]) + ((9973, 3),)
        self.assertEqual(len(str(plain_value(large))), 40)
        self.follow(Live(large), ("prime", 9001), "many")
        self.follow(Live(ODDS, hold="cyclic"), ("prime", 2), "many")
        self.follow(Live(ODDS, hold="cyclic"), ("prime", ODDS[0][0]), "held")

    def test_great(self):
        live = Live(LARGE)
        for prime in (2, 3, 9941, 9973):
            self.follow(live, ("prime", prime), "great")
        self.assertEqual(live.drop(9973), ((), ()))
        self.follow(Live(LARGE[:3] + ((9973, 1),)), ("prime", 2), "great")
        near = ((2, 2), (5, 1), *LARGE[:3])
        self.assertEqual(len(str(plain_value(near))), 38)
        live = Live(near)
        self.assertEqual([outcome(live.put, prime) for prime in (7, 7)], ["tuple(tuple(),tuple())"] * 2)
        self.assertEqual(len(str(live.value_now)), 39)
        # Ahead of what is held: nothing holds by 2, but nothing more fits either.
        self.follow(Live(tuple((prime, 2) for prime in PRIMES[-5:]), hold="commute"), ("prime", 2), "great")

    def test_just_forty_digits(self):
        # 10 ** 40 itself is no value of such a count: near it, below and above.
        found = set()
        for last in PRIMES[-80:]:
            live = Live(((9941, 3), (9949, 3), (9967, 3)))
            value = plain_value(live.count_now) * last
            self.assertEqual(live.barred(("prime", last)), "great" if value >= 10 ** 40 else None)
            found.add(value >= 10 ** 40)
        live = Live(((2, 6), (5, 6), (9929, 6), (9973, 2)))
        for prime in PRIMES[:30]:
            value = live.value_now * prime
            right = "power" if prime in (2, 5) else "great" if value >= 10 ** 40 else None
            self.assertEqual(live.barred(("prime", prime)), right)
            found.add(value >= 10 ** 40)
        self.assertEqual(found, {False, True})

    def test_held(self):
        for hold, count, prime in (("cyclic", FIFTEEN, 3), ("cyclic", FIFTEEN, 2),
                                   ("commute", ((3, 2), (5, 1)), 3), ("commute", ((3, 2), (5, 1)), 2),
                                   ("split", ((2, 3),), 7), ("split", ((2, 1),), 3), ("commute", ((2, 2),), 2),
                                   ("cyclic", ((3, 1), (5, 1), (17, 1)), 7)):
            self.follow(Live(count, hold=hold), ("prime", prime), "held")
            self.assertIsNone(Live(count).barred(("prime", prime)))
        # Lesser words than what is held may end.
        live = Live(FIFTEEN, hold="commute")
        self.assertEqual(live.put(3), ((), ("cyclic",)))
        live = Live(((2, 2),), hold="split")
        self.assertEqual(live.put(2), ((), ("commute",)))
        self.assertEqual([live.words(), live.put(2), live.barred(("prime", 3))], [("split",), ((), ()), "held"])

    def test_absent(self):
        for count in (SIX, FORTY, ()):
            for prime in (7, 9973):
                self.follow(Live(count), ("drop", prime), "absent")
        live = Live(FORTY)
        self.assertEqual([live.drop(2) for _ in range(3)], [((), ()), ((), ()), (("commute", "cyclic", "split"), ())])
        self.follow(live, ("drop", 2), "absent")

    def test_twice(self):
        live = Live(SIX)
        self.assertIsNone(live.note("a"))
        self.follow(live, ("note", "a"), "twice")
        self.assertEqual([live.put(5), live.note("b"), live.undo(), live.undo(), live.undo()],
                         [((), ()), None, ("note", "b"), ("prime", 5), ("note", "a")])
        self.assertEqual([live.note("b"), live.note("a")], [None, None])
        self.follow(live, ("note", "b"), "twice")

    def test_same_and_false(self):
        live = Live(FIFTEEN)
        self.follow(live, ("hold", "off"), "same")
        self.assertIsNone(live.set_hold("cyclic"))
        self.follow(live, ("hold", "cyclic"), "same")
        self.assertEqual([live.set_hold("split"), live.put(3), live.undo()], [None, ((), ("cyclic",)), ("prime", 3)])
        self.follow(live, ("hold", "split"), "same")
        for count, hold in product(STARTS, HOLDS[1:]):
            if hold not in plain_words(count):
                self.follow(Live(count), ("hold", hold), "false")
            else:
                self.follow(Live(count, hold=hold), ("hold", hold), "same")
                self.assertIsNone(Live(count).set_hold(hold))

    def test_square(self):
        for count in (SIX, THIRTY, ODDS, EIGHTS, ((2, 1),)):
            for prime, _ in count:
                self.follow(Flat(count), ("prime", prime), "square")
        self.follow(Flat(FIFTEEN, hold="cyclic"), ("prime", 3), "square")
        self.follow(Flat(FIFTEEN, hold="cyclic"), ("prime", 2), "held")
        self.follow(Flat(EIGHTS), ("prime", 23), "many")
        live = Flat(())
        self.assertEqual([live.put(2), live.barred(("prime", 2)), live.drop(2), live.put(2)],
                         [((), ()), "square", ((), ()), ((), ())])

    def test_full_ahead_of_all_others(self):
        events = [("prime", 2), ("drop", 2)] * 19 + [("note", "a"), ("prime", 2)]
        for kind in (Live, Flat):
            live = behind(kind, ((), "off"), events)
            for event in (("prime", 2), ("drop", 3), ("note", "a"), ("hold", "off"), ("hold", "cyclic"), ("note", "b")):
                self.follow(live, event, "full")
            for event in NO_EVENTS:
                self.follow(live, event, "shape")


class Signs(unittest.TestCase):
    def test_powers_and_primes(self):
        for count in STARTS:
            live = Live(count)
            powers = dict(count)
            for thing in any_values() + [live, Live, slice(0, 1)]:
                inside = is_real_prime(thing) and thing in powers
                self.assertIs(thing in live, inside)
                self.assertEqual(outcome(lambda: live[thing]), hex(powers[thing]) if inside else refused("prime"))
            self.assertEqual([list(live), [prime for prime in live], len(live), bool(live)],
                             [sorted(powers), sorted(powers), 0, False])

    def test_iterated_over_while_it_changes(self):
        live, seen = Live(THIRTY), []
        for prime in live:
            seen.append(prime)
            live.drop(prime)
        self.assertEqual([seen, list(live), len(live)], [[2, 3, 5], [], 3])

    def test_equal(self):
        made = []
        for start in starts()[::3]:
            for events in ((), (("prime", 7),), (("prime", 7), ("drop", 7)), (("note", "a"),), (("note", "b"),)):
                for kind in KINDS_OF_LIVE:
                    if kind is Flat and any(power > 1 for _, power in start[0]):
                        continue
                    if all(plain_reason(start, list(events[:at]), event, kind is Flat) is None
                           for at, event in enumerate(events)):
                        made.append(((start, events), behind(kind, start, events)))
        for (log, live), (late, other) in product(made, made):
            self.assertIs(live == other, log == late)
            self.assertIs(live != other, log != late)

    def test_equal_by_logs_alone(self):
        one, other = Live(SIX), Live(SIX)
        one.put(5)
        one.undo()
        self.assertTrue(one == other)
        self.assertNotEqual(one.tally(), other.tally())
        one.do_all(("prime", 5), ("drop", 5))
        self.assertFalse(one == other)
        self.assertEqual(one.count_now, other.count_now)
        for thing in any_values() + [Live, one.log(), one.count_now]:
            self.assertIs(one == thing, False)
            self.assertIs(thing == one, False)

    def test_properties_are_not_assigned(self):
        for name in ("count_now", "value_now", "hold_now"):
            with self.assertRaises(AttributeError):
                setattr(Live(SIX), name, ())
