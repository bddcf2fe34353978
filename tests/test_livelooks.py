"""What live numbers tell and try, several events at once, and their tally: [68], [71], [72], [74]."""

import inspect
import unittest
from itertools import product
from random import Random

from forcedtables.errors import GroupError, NotUsable
from forcedtables.forced import kinds_forced
from forcedtables.lives import Flat, Live
from tests.livesamples import (EVENTS, HOLDS, NO_EVENTS, STARTS, Derived, behind, looks, plain_change, plain_clashes,
                               plain_looks, plain_reason, plain_state, plain_table, plain_words, starts, walks)
from tests.kindsamples import KINDS, plain_forces
from tests.samples import FIFTEEN, FORTY, PRIMES, SIX, THIRTY, any_values, is_real, outcome, refused, written

CLASSES = (Live, Derived, Flat)


def plain_fits(count, word, top):
    """The primes below top with which the word would hold, by [68]."""
    return tuple(prime for prime in PRIMES[:46] if prime < top and prime not in dict(count)
                 and plain_forces(tuple(sorted([*count, (prime, 1)])), word))


class Told(unittest.TestCase):
    def test_words_clashes_and_tables(self):
        for count in STARTS:
            live = Live(count)
            self.assertEqual(written(live.words()), written(plain_words(count)))
            self.assertEqual(written(live.clashes()), written(plain_clashes(count)))
            self.assertEqual(written(live.table()), written(plain_table(count)))
            self.assertEqual(sorted(kinds_forced(count)), list(live.words()))

    def test_known_ones(self):
        live = Live(((2, 2), (3, 1)))
        self.assertEqual([live.clashes(), live.table(), live.words()], [((2, 3), (3, 2)), ["2 2 3", "3 1 2"], ()])
        live = Live(((2, 4), (3, 1), (5, 1), (7, 1)))
        self.assertEqual([live.clashes(), live.table()],
                         [((2, 3), (2, 5), (2, 7), (3, 2), (5, 2), (7, 2), (7, 3)),
                          ["2 4 3,5,7", "3 1 2", "5 1 2", "7 1 2,3"]])
        self.assertEqual([Live(()).table(), Live(()).words(), Live(()).clashes(), Live(()).groups()],
                         [[], ("commute", "cyclic", "split"), (), 1])

    def test_tables_are_new(self):
        live = Live(SIX)
        live.table().append("5 1 -")
        self.assertEqual(live.table(), ["2 1 -", "3 1 2"])

    def test_groups(self):
        self.assertEqual([Live(count).groups() for count in (SIX, FIFTEEN, THIRTY, FORTY, ((3, 2),), ())],
                         [2, 1, 4, None, None, 1])
        live = Live(SIX)
        self.assertEqual([live.put(7), live.groups(), live.put(7), live.groups(), live.drop(7), live.groups()],
                         [((), ()), 6, ((), ()), None, ((), ()), 6])
        for start, events in walks(Random(3), Flat, 10, 40):
            self.assertIsNotNone(behind(Flat, start, events).groups())

    def test_fits(self):
        for count in STARTS:
            live = Live(count)
            for word in KINDS:
                for top in (0, 1, 2, 3, 4, 17, 18, 20, 100, 199, 200):
                    right = plain_fits(count, word, top)
                    self.assertEqual(written(live.fits(word, top)), written(right), (count, word, top))
                self.assertEqual(live.fits(top=200, word=word), right)
                if word not in live.words():
                    self.assertEqual(live.fits(word, 200), ())

    def test_fits_whatever_is_not_possible(self):
        # Full, of eight primes, of forty digits, or held: what would hold is told all the same.
        live = Live(tuple((prime, 1) for prime in PRIMES[-8:]), hold="cyclic")
        self.assertEqual(live.fits("cyclic", 200), plain_fits(live.count_now, "cyclic", 200))
        self.assertGreater(len(live.fits("split", 200)), 3)
        live = Live(((9941, 3), (9949, 3), (9967, 3), (9973, 1)))
        self.assertEqual(live.fits("split", 200), plain_fits(live.count_now, "split", 200))
        self.assertGreater(len(live.fits("split", 200)), 3)
        live = behind(Live, ((), "off"), [("prime", 3), ("drop", 3)] * 20)
        self.assertEqual(live.fits("cyclic", 8), (2, 3, 5, 7))
        self.assertEqual([Live(((3, 1),)).fits("split", 8), Live(((3, 1),)).fits("split", 6)], [(5,), (5,)])

    def test_fits_refused(self):
        live = Live(FIFTEEN)
        for thing in any_values():
            if type(thing) is not str or thing not in KINDS:
                self.assertEqual(outcome(live.fits, thing, thing), refused("word"))
                self.assertEqual(outcome(live.fits, thing, 20), refused("word"))
            if not is_real(thing) or not 0 <= thing <= 200:
                self.assertEqual(outcome(live.fits, "split", thing), refused("top"))
        for top in (201, -1, True, None, "20", 10 ** 50):
            self.assertEqual(outcome(live.fits, "cyclic", top), refused("top"))
        self.assertEqual(outcome(live.fits, "off", 20), refused("word"))

    def test_notes(self):
        live = Live(FIFTEEN)
        live.do_all(("note", "a"), ("prime", 3), ("note", "b"), ("prime", 2), ("note", "c"), ("drop", 3))
        counts = {"a": FIFTEEN, "b": ((3, 2), (5, 1)), "c": ((2, 1), (3, 2), (5, 1))}
        for name, count in counts.items():
            self.assertEqual(written([live.count_then(name), live.count_then(name=name)]), written([count, count]))
            right = plain_change(count, THIRTY)
            self.assertEqual(written([live.since(name), live.since(name=name)]), written([right, right]))
        self.assertEqual(live.since("a"), ((), ("commute", "cyclic", "split")))
        for thing in any_values() + ["d", "ab", "", None, ("note", "a"), live]:
            if thing != "a":
                for call in (live.count_then, live.since):
                    self.assertEqual(outcome(call, thing), refused("name"))
        for _ in range(4):
            live.undo()
        self.assertEqual([outcome(live.count_then, "b"), live.count_then("a")], [refused("name"), FIFTEEN])
        # A note that was taken back can be made once more, at another moment.
        self.assertEqual([live.drop(3), live.note("b"), live.count_then("b")], [(("cyclic",), ()), None, FIFTEEN])

    def test_since_a_drop(self):
        live = Live(SIX)
        live.note("a")
        live.drop(2)
        self.assertEqual([live.since("a"), live.put(3), live.since("a")],
                         [(("commute", "cyclic", "split"), ()), ((), ("cyclic",)), (("commute", "split"), ())])


class Tried(unittest.TestCase):
    def test_walks(self):
        for kind in CLASSES:
            for start, events in walks(Random(4), kind, 12, 60):
                for at in range(0, len(events), 4):
                    live = behind(kind, start, events[:at])
                    before, tally = looks(live), live.tally()
                    for more in range(at, len(events) + 1, 3):
                        count = plain_state(*start, events[:more])[0]
                        found = live.tried(*events[at:more])
                        self.assertEqual(written(found), written((count, plain_words(count))))
                    self.assertEqual([looks(live), live.tally()], [before, tally])

    def test_nothing(self):
        self.assertEqual(Live(SIX).tried(), (SIX, ()))

    def test_the_first_error(self):
        live = Live(SIX)
        for events, event, reason in (((None,), None, "shape"), ((("drop", 5), None), ("drop", 5), "absent"),
                                      ((("prime", 5), ("drop", 5), ("drop", 5)), ("drop", 5), "absent"),
                                      ((("note", "a"), ("note", "a"), ("prime", 4)), ("note", "a"), "twice"),
                                      ((("drop", 2), ("hold", "cyclic"), ("prime", 2), []), ("prime", 2), "held"),
                                      (([],), [], "shape")):
            for _ in range(2):
                self.assertEqual(outcome(live.tried, *events), f"InvalidEvent {written(event)} {reason}")
                self.assertEqual([looks(live), live.tally()], [plain_looks((SIX, "off"), []), (0, 0)])

    def test_full(self):
        pair = [("prime", 5), ("drop", 5)]
        live = Live(SIX)
        self.assertEqual(live.tried(*pair * 20), (SIX, ()))
        self.assertEqual(outcome(live.tried, *pair * 20, ("note", "a")), f"InvalidEvent {written(('note', 'a'))} full")
        self.assertEqual(outcome(live.tried, *pair * 20, None), "InvalidEvent None shape")
        live.put(5)
        self.assertEqual(live.tried(("drop", 5), *pair * 19), (SIX, ()))
        self.assertEqual(outcome(live.tried, ("drop", 5), *pair * 19, ("prime", 7), ("prime", 11)),
                         f"InvalidEvent {written(('prime', 7))} full")


class DoAll(unittest.TestCase):
    def test_walks(self):
        for kind in CLASSES:
            for start, events in walks(Random(5), kind, 15, 60):
                for keep in (False, True):
                    live = kind(start[0], hold=start[1])
                    half = len(events) // 2
                    self.assertEqual(written(live.do_all(*events[:half], keep=keep)), hex(half))
                    self.assertEqual(live.do_all(*events[half:]), len(events) - half)
                    self.assertEqual(looks(live), plain_looks(start, events))
                    self.assertEqual([live.do_all(), live.do_all(keep=True), live.tally()], [0, 0, (4, 4)])

    def test_behind_an_error(self):
        many = 0
        for kind in CLASSES:
            for start, events in walks(Random(6), kind, 10, 40):
                for at, bad in product(range(0, len(events) + 1, 5), EVENTS[::5] + NO_EVENTS[::9]):
                    reason = plain_reason(start, events[:at], bad, kind is Flat)
                    if reason is None:
                        continue
                    many += 1
                    for keep in (False, True):
                        live = behind(kind, start, events[:1])
                        row = [*events[1:at], bad, ("prime", 4), *events[at:]] if at else [None]
                        right = f"InvalidEvent {written(bad if at else None)} {reason if at else 'shape'}"
                        self.assertEqual(outcome(live.do_all, *row, keep=keep), right)
                        kept = events[:max(at, 1)] if keep else events[:1]
                        self.assertEqual(looks(live), plain_looks(start, kept))
                        self.assertEqual(live.tally(), (2, 2))
        self.assertGreater(many, 200)

    def test_keep(self):
        for thing in any_values():
            for kind in CLASSES:
                live = kind(SIX)
                if type(thing) is bool:
                    self.assertEqual(live.do_all(("prime", 5), keep=thing), 1)
                    continue
                for events in ((), (("prime", 5),), (None,), (("drop", 5), [])):
                    self.assertEqual(outcome(live.do_all, *events, keep=thing), refused("keep"))
                self.assertEqual([looks(live), live.tally()], [plain_looks((SIX, "off"), []), (4, 4)])

    def test_full(self):
        pair = [("prime", 5), ("drop", 5)]
        for keep in (False, True):
            live = Live(SIX)
            self.assertEqual(outcome(live.do_all, *pair * 20, ("note", "a"), keep=keep),
                             f"InvalidEvent {written(('note', 'a'))} full")
            self.assertEqual(len(live), 40 if keep else 0)
        self.assertEqual(live.do_all(), 0)

    def test_parameters(self):
        events, keep = inspect.signature(Live(()).do_all).parameters.values()
        self.assertEqual([events.kind, keep.kind, keep.default], [events.VAR_POSITIONAL, keep.KEYWORD_ONLY, False])
        self.assertEqual([each.kind for each in inspect.signature(Live(()).tried).parameters.values()],
                         [events.VAR_POSITIONAL])
        # A bool behind the events is one of them.
        self.assertEqual(outcome(Live(()).do_all, True), "InvalidEvent True shape")


class Tally(unittest.TestCase):
    def test_each_operation_counts_once(self):
        for kind in CLASSES:
            live, many = kind(SIX), 0
            for call, right in ((lambda: live.put(5), True), (lambda: live.put(4), False), (lambda: live.drop(5), True),
                                (lambda: live.drop(5), False), (lambda: live.note("a"), True),
                                (lambda: live.note("a"), False), (lambda: live.set_hold("off"), False),
                                (lambda: live.go(("prime", 5)), True), (lambda: live.go([]), False),
                                (lambda: live(("drop", 5)), True), (lambda: live(None), False), (lambda: live.undo(), True),
                                (lambda: live.do_all(("drop", 5), ("prime", 5), ("note", "b")), True),
                                (lambda: live.do_all(("note", "c"), ("note", "c")), False),
                                (lambda: live.do_all(("note", "c"), None, keep=True), False),
                                (lambda: live.do_all(keep=1), False), (lambda: live.do_all(None, keep=None), False),
                                (lambda: live.do_all(), True), (lambda: live.set_hold("cyclic"), False),
                                (lambda: live.put(prime=7), True), (lambda: live.drop(prime=7), True),
                                (lambda: live.note(name="z"), True), (lambda: live.go(event=("drop", 3)), True),
                                (lambda: live(event=("drop", 3)), False), (lambda: live.set_hold(word="off"), False)):
                self.assertIs(not outcome(call).startswith(("Invalid", "Not")), right)
                many += 1
                self.assertEqual(written(live.tally()), written((many, many)))

    def test_undo_of_nothing_counts(self):
        live = Live(SIX)
        for many in range(1, 4):
            self.assertEqual([outcome(live.undo), live.tally()], ["NothingToUndo 0x0", (many, many)])

    def test_what_is_asked_counts_and_changes_nothing(self):
        for kind in CLASSES:
            live = behind(kind, (FIFTEEN, "cyclic"), [("note", "m"), ("prime", 17)])
            before, tally = looks(live), live.tally()
            for call in (lambda: live.count_now, lambda: live.value_now, lambda: live.hold_now, lambda: live.words(),
                         lambda: live.clashes(), lambda: live.groups(), lambda: live.fits("split", 99),
                         lambda: live.fits("off", 99), lambda: live.tried(("prime", 257)), lambda: live.tried(None),
                         lambda: live.tally(), lambda: live.barred(("prime", 2)), lambda: live.barred([]),
                         lambda: live.table(), lambda: live.count_then("m"), lambda: live.count_then("x"),
                         lambda: live.since("m"), lambda: live.since([]), lambda: live[3], lambda: live[2],
                         lambda: 3 in live, lambda: [] in live, lambda: list(live), lambda: len(live),
                         lambda: live == Live(()), lambda: live == 3, lambda: str(live), lambda: live.log(),
                         lambda: bool(live)):
                for _ in range(2):
                    try:
                        call()
                    except GroupError:
                        pass
                    self.assertEqual([looks(live), live.tally()], [before, tally])

    def test_tally_is_no_part_of_what_is_undone(self):
        live = Live(SIX)
        live.put(5)
        live.undo()
        self.assertEqual([live.tally(), len(live)], [(2, 2), 0])


class Barred(unittest.TestCase):
    def test_any_values(self):
        for start in starts()[::4]:
            live = Live(start[0], hold=start[1])
            for thing in any_values() + NO_EVENTS + EVENTS:
                self.assertEqual(written(live.barred(thing)), written(plain_reason(start, [], thing)))

    def test_each_live_number_by_itself(self):
        one, other = Live(SIX), Live(SIX)
        one.put(5)
        one.note("a")
        self.assertEqual([other.count_now, outcome(other.count_then, "a"), other.tally()], [SIX, refused("name"), (0, 0)])

    def test_derived_classes_refuse_alike(self):
        for hold in HOLDS:
            for kind in CLASSES:
                with self.assertRaises(NotUsable):
                    kind(SIX, hold=hold + " ")
