"""Logs, and live numbers made from them once more: [75], and (F7) of [8]."""

import unittest
from random import Random

from forcedtables.eventreadings import read_log
from forcedtables.eventtexts import log_lines
from forcedtables.lives import Flat, Live
from forcedtables.replaying import is_log, replayed
from tests.livesamples import (EVENTS, HOLDS, NO_EVENTS, STARTS, Derived, behind, can_start, is_real_event, looks,
                               plain_looks, plain_reason, plain_words, walks)
from tests.samples import FIFTEEN, SIX, any_values, bent, outcome, refused, written

LOG = (("live", FIFTEEN, "cyclic"), ("note", "m"), ("prime", 17), ("drop", 3), ("hold", "off"))


def is_real_log(thing):
    """Whether any value is a log, by [75] read once more."""
    if type(thing) is not tuple or not thing:
        return False
    first, *events = thing
    if type(first) is not tuple or len(first) != 3 or type(first[0]) is not str or first[0] != "live":
        return False
    return can_start(first[1], first[2]) is None and all(is_real_event(event) for event in events)


def right_looks(log):
    """The looks of what replayed has to return for a log, or its first error, as a text."""
    start, events = log[0][1:], log[1:]
    for at, event in enumerate(events):
        reason = plain_reason(start, list(events[:at]), event)
        if reason is not None:
            return f"InvalidEvent {written(event)} {reason}"
    return plain_looks(start, list(events))


def replayed_looks(thing):
    """The looks of what replayed returns, of just the class Live and with no tally, or its error, as a text."""
    kept = []
    result = outcome(lambda: kept.append(replayed(thing)))
    if not kept:
        return result
    return looks(kept[0]) if type(kept[0]) is Live and kept[0].tally() == (0, 0) else f"{type(kept[0])}"


class Logs(unittest.TestCase):
    def test_of_walks(self):
        for kind in (Live, Derived, Flat):
            for start, events in walks(Random(11), kind, 15, 60):
                live = kind(start[0], hold=start[1])
                for at in range(len(events) + 1):
                    log = live.log()
                    self.assertEqual(written(log), written((("live", *start), *events[:at])))
                    self.assertIs(is_log(log), True)
                    if at % 3 == 0 or at == len(events):
                        late = replayed(log)
                        self.assertEqual([type(late), late.tally(), looks(late)], [Live, (0, 0), looks(live)])
                        self.assertTrue(late == live and live == late)
                    if at < len(events):
                        live.go(events[at])
                # Taken back one by one to the beginning, it is replayed all the same.
                for at in range(len(events), -1, -1):
                    self.assertEqual(looks(replayed(log=live.log())), plain_looks(start, events[:at]))
                    if at:
                        live.undo()

    def test_what_was_taken_back_is_not_in_the_log(self):
        live = Live(SIX)
        live.do_all(("prime", 5), ("note", "a"))
        live.undo()
        self.assertEqual(live.log(), (("live", SIX, "off"), ("prime", 5)))

    def test_strings(self):
        self.assertEqual([str(Live(SIX)), str(behind(Live, (SIX, "off"), [("prime", 5)]))], ["-", "prime 5"])
        live = replayed(LOG)
        self.assertEqual(str(live), "note m / prime 17 / drop 3 / hold off")
        self.assertEqual(str(live).split(" / "), log_lines(live.log())[1:])

    def test_it_lives_on_by_itself(self):
        live = replayed(LOG)
        late = replayed(live.log())
        late.put(2)
        self.assertEqual([live.count_now, late.count_now, late.tally()],
                         [((5, 1), (17, 1)), ((2, 1), (5, 1), (17, 1)), (1, 1)])

    def test_from_lines(self):
        for start, events in walks(Random(12), Live, 10, 50):
            live = behind(Live, start, events)
            self.assertTrue(replayed(read_log(log_lines(live.log()))) == live)


class IsLog(unittest.TestCase):
    def test_all_beginnings(self):
        for count in STARTS:
            for hold in HOLDS:
                right = hold == "off" or hold in plain_words(count)
                self.assertIs(is_log((("live", count, hold),)), right)
                self.assertIs(is_log((("live", count, hold), ("prime", 2), ("prime", 2))), right)

    def test_events_that_are_not_possible(self):
        for event in EVENTS:
            log = (("live", (), "cyclic"), event, event, event)
            self.assertIs(is_log(log), True)
            self.assertEqual(replayed_looks(log), right_looks(log))
        long = (("live", (), "off"), *[("prime", 2), ("drop", 2)] * 30)
        self.assertIs(is_log(long), True)
        self.assertEqual(replayed_looks(long), f"InvalidEvent {written(('prime', 2))} full")
        self.assertEqual(replayed_looks(long[:41]), right_looks(long[:41]))

    def test_what_is_none(self):
        start = ("live", SIX, "off")
        for thing in (None, True, (), [], "", "live", start, [start], (list(start),), (start, None), (None, start),
                      (("live", SIX),), (("live", SIX, "off", ()),), (("Live", SIX, "off"),), ((None, SIX, "off"),),
                      (("live", list(SIX), "off"),), (("live", SIX, "split"),), (("live", SIX, None),),
                      (("live", SIX, "none"),), (("live", SIX, ["off"]),), (("live", 6, "off"),), (start, start),
                      (("live", "off", SIX),), ((["live"], SIX, "off"),), (start, []), (start, ("prime", 4)),
                      (start, ("prime", True)), (("prime", 2), start), (("prime", 2),), (start, ["prime", 2]),
                      (("live", ((2, True),), "off"),), (("live", tuple((p, 6) for p in (2, 9967, 9973)), "off"),)):
            self.assertIs(is_log(thing), False, thing)
            self.assertIs(is_log(thing=thing), False)
            self.assertEqual(outcome(replayed, thing), refused("log"))
        for event in NO_EVENTS:
            self.assertIs(is_log((start, event)), False)
            self.assertIs(is_log((start, ("drop", 9973), event, ("prime", 5))), False)

    def test_bent(self):
        for thing in bent(LOG):
            right = is_real_log(thing)
            self.assertIs(is_log(thing), right, thing)
            self.assertEqual(replayed_looks(thing), right_looks(thing) if right else refused("log"), thing)

    def test_any_values(self):
        for thing in [*any_values(), Live(SIX), Live, Live(SIX).count_now]:
            self.assertIs(is_log(thing), False)
            self.assertEqual(outcome(replayed, thing), refused("log"))
            right = can_start(thing, "off") is None
            self.assertIs(is_log((("live", thing, "off"),)), right)
            self.assertEqual(replayed_looks((("live", thing, "off"),)), plain_looks((thing, "off"), []) if right
                             else refused("log"))
            self.assertIs(is_log((("live", SIX, thing),)), type(thing) is str and thing == "off")

    def test_what_is_handed_in_stays(self):
        for thing in (list(LOG), [list(LOG[0])], (LOG[0], ["prime", 2]), (["live", [], "off"],)):
            before = written(thing)
            is_log(thing)
            outcome(replayed, thing)
            self.assertEqual(written(thing), before)
