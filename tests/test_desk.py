"""Desks: [78], [79]."""

import inspect
import unittest
from random import Random

from forcedtables import desk as desks
from forcedtables.counttexts import count_text
from forcedtables.desk import Desk
from forcedtables.lives import Live
from tests.choicesamples import plain_many
from tests.livesamples import (EVENTS, HOLDS, KINDS, NAMES, STARTS, can_start, plain_answer, plain_change, plain_clashes,
                               plain_line, plain_reason, plain_state, plain_table, plain_words, starts, walks)
from tests.samples import FIFTEEN, PRIMES, SIX, any_values, changed, is_real_prime, outcome, plain_value, refused, written
from tests.test_eventtexts import plain_event_field, plain_number, plain_start_field
from tests.test_livelooks import plain_fits

BARE = ("undo", "events", "log", "hold", "value", "words", "groups", "count", "clashes", "table")
MORE = ["", "0", "1", "02", "3", "91", "200", "201", "cyclic", "off", "m", "M", "m\n", "prime", "bars", "fits", "power",
        "then", "since", "undo", "live", "-", "/", "9" * 60, "9" * 61, "2^1"]
ROWS = ["live off 1", "live cyclic 3^1 5^1", "prime 2", "prime 3", "drop 3", "drop 7", "note m", "note k", "hold cyclic",
        "hold off", "hold", "undo", "bars prime 5", "bars drop 9973", "bars note m", "bars hold split", "events", "log",
        "value", "words", "groups", "count", "clashes", "fits split 20", "fits cyclic 0", "fits commute 200",
        "fits split 201", "power 3", "power 9973", "then m", "then x", "since m", "since zz", "table"]


class PlainDesk:
    """What a desk has to answer, by [79] read once more, from the beginning and the events of its live number."""

    def __init__(self):
        self.start, self.events = None, []

    def say(self, row):
        """The outcome of a row, as a text: what is returned, or the error."""
        start, field = plain_start_field(row)
        if field is None:
            self.start, self.events = start[1:], []
            return written("ok")
        if self.start is None:
            return barred_row(row)
        return self.tell(row, row.split(" "))

    def tell(self, row, words):
        """The outcome of a row that begins no live number."""
        count, hold, notes = plain_state(*self.start, self.events)
        bare = {"events": str(len(self.events)), "value": str(plain_value(count)), "hold": hold,
                "log": " / ".join(plain_line(event) for event in self.events) or "-", "words": spaced(plain_words(count)),
                "groups": str(plain_many(count)) if all(power == 1 for _, power in count) else "-",
                "count": count_text(count), "table": " / ".join(plain_table(count)) or "-",
                "clashes": spaced(f"{p}:{q}" for p, q in plain_clashes(count))}
        if row in bare:
            return written(bare[row])
        if row == "undo":
            return written(plain_line(self.events.pop())) if self.events else "NothingToUndo 0x0"
        event, field = plain_event_field(row)
        if field is None:
            return self.apply(event)
        event, field = plain_event_field(" ".join(words[1:]))
        if words[0] == "bars" and len(words) > 1 and field is None:
            return written(plain_reason(self.start, self.events, event) or "-")
        return self.ask(row, words, count, notes)

    def apply(self, event):
        """The outcome of the row of an event."""
        reason = plain_reason(self.start, self.events, event)
        if reason is not None:
            return f"InvalidEvent {written(event)} {reason}"
        answer = plain_answer(self.start, self.events, event)
        self.events.append(event)
        return written("-" if answer is None else f"{spaced(answer[0])} / {spaced(answer[1])}")

    def ask(self, row, words, count, notes):
        """The outcome of a row with words behind its first one."""
        number = plain_number(words[-1])
        if words[0] == "fits" and len(words) == 3 and words[1] in KINDS and number is not None:
            return refused("top") if number > 200 else written(spaced(plain_fits(count, words[1], number)))
        if words[0] == "power" and len(words) == 2 and is_real_prime(number):
            return written(str(dict(count)[number])) if number in dict(count) else refused("prime")
        if words[0] not in ("then", "since") or len(words) != 2 or not is_name(words[1]):
            return barred_row(row)
        if words[1] not in notes:
            return refused("name")
        one, two = plain_change(notes[words[1]], count)
        return written(count_text(notes[words[1]]) if words[0] == "then" else f"{spaced(one)} / {spaced(two)}")


def is_name(word):
    """Whether a word is a name by form."""
    return 1 <= len(word) <= 8 and all("a" <= sign <= "z" for sign in word)


def spaced(parts):
    """The parts of a set with single spaces between, or a dash."""
    return " ".join(str(part) for part in parts) or "-"


def barred_row(row):
    """The outcome of a call that raises InvalidRow."""
    return f"InvalidRow {written(row)}"


class Rows(unittest.TestCase):
    def follow(self, rows):
        """Say all rows to a desk, and see that each answer is as [79] read once more says."""
        one, other = Desk(), PlainDesk()
        for at, row in enumerate(rows):
            self.assertEqual(outcome(one.say, row), other.say(row), rows[:at + 1])
            self.assertEqual(one.tally(), (at + 1, at + 1))

    def test_known_ones(self):
        one = Desk()
        for row, answer in (("live off 3^1 5^1", "ok"), ("words", "commute cyclic split"), ("note m", "-"),
                            ("prime 17", "- / -"), ("hold cyclic", "-"), ("bars prime 2", "held"), ("hold off", "-"),
                            ("prime 2", "- / commute cyclic split"), ("since m", "- / commute cyclic split"),
                            ("then m", "3^1 5^1"), ("clashes", "3:2 5:2 17:2"), ("table", "2 1 - / 3 1 2 / 5 1 2 / 17 1 2"),
                            ("power 17", "1"), ("events", "5"), ("value", "510"), ("hold", "off"), ("groups", "8"),
                            ("log", "note m / prime 17 / hold cyclic / hold off / prime 2"), ("undo", "prime 2"),
                            ("undo", "hold off"), ("hold", "cyclic"), ("count", "3^1 5^1 17^1"), ("clashes", "-"),
                            ("fits cyclic 30", "23 29"), ("bars note k", "-"), ("bars note m", "twice"),
                            ("live split 2^3", "ok"), ("log", "-"), ("groups", "-"), ("table", "2 3 -"),
                            ("drop 2", "commute / -"), ("live off 1", "ok"), ("table", "-"), ("count", "1"), ("value", "1")):
            self.assertEqual(one.say(row), answer, row)
        self.assertEqual(one.say(row="events"), "0")

    def test_all_walks(self):
        random = Random(13)
        for start, events in walks(random, Live, 25, 60):
            rows = [f"live {start[1]} {count_text(start[0])}"]
            for event in events:
                rows += [random.choice(ROWS[10:]), f"bars {plain_line(random.choice(EVENTS))}", plain_line(event)]
            self.follow(rows + list(BARE) + ["undo"] * 50)

    def test_rows_in_any_order(self):
        random = Random(14)
        for _ in range(60):
            self.follow([random.choice(ROWS) for _ in range(60)])
            self.follow(ROWS[:1] + [random.choice(ROWS[2:]) for _ in range(60)])

    def test_all_beginnings(self):
        for count in STARTS:
            for hold in HOLDS:
                row = f"live {hold} {count_text(count)}"
                self.follow([row, *BARE])
                self.follow(["live off 2^1", row, *BARE])
                self.assertEqual(outcome(Desk().say, row),
                                 written("ok") if can_start(count, hold) is None else barred_row(row))

    def test_rows_changed(self):
        for row in ROWS:
            for text in changed(row, MORE):
                one, other = Desk(), PlainDesk()
                for start in ("live off 2^2 3^1", "note m"):
                    self.assertEqual(outcome(one.say, start), other.say(start))
                self.assertEqual(outcome(one.say, text), other.say(text), text)

    def test_before_the_first_live_number(self):
        for row in [*ROWS, *MORE, "", "live", "live off", "live off 1 ", "live split 2^1 3^1", "live off 4^1", "prime 4"]:
            one = Desk()
            self.assertEqual(outcome(one.say, row), PlainDesk().say(row))
            if not row.startswith("live"):
                self.assertEqual(outcome(one.say, row), barred_row(row))
        for text in any_values():
            if type(text) is str:
                self.assertEqual(outcome(Desk().say, text), barred_row(text))

    def test_a_line_of_which_no_live_can_be_made(self):
        nine = " ".join(f"{prime}^1" for prime in PRIMES[:9])
        for row in ("live split 2^1 3^1", "live cyclic 3^2", f"live off {nine}", "live commute 2^3", "live off 4^1",
                    "live", "live off", "live on 1", "live off 1 1", "live off 1\n", "live\noff 1", "live  off 1"):
            self.assertEqual(outcome(Desk().say, row), barred_row(row))
            # The live number that is there stays.
            one = Desk()
            one.say("live off 2^1")
            one.say("prime 5")
            self.assertEqual([outcome(one.say, row), one.say("log")], [barred_row(row), "prime 5"])

    def test_errors_of_the_live_number(self):
        one = Desk()
        one.say("live cyclic 3^1 5^1")
        for row, right in (("prime 3", f"InvalidEvent {written(('prime', 3))} held"), ("undo", "NothingToUndo 0x0"),
                           ("drop 2", f"InvalidEvent {written(('drop', 2))} absent"), ("power 2", refused("prime")),
                           ("hold cyclic", f"InvalidEvent {written(('hold', 'cyclic'))} same"), ("then m", refused("name")),
                           ("since m", refused("name")), ("fits split 201", refused("top")),
                           ("fits split " + "9" * 60, refused("top")), ("fits split " + "9" * 61, None),
                           ("power 91", None), ("power 4", None), ("power 05", None), ("power 10007", None),
                           ("then M", None), ("since abcdefghi", None), ("fits off 20", None), ("fits split 020", None),
                           ("fits split -1", None), ("prime 91", None), ("note 1", None), ("hold on", None),
                           ("bars prime 91", None), ("bars", None), ("bars ", None), ("bars undo", None), ("undo 1", None),
                           ("bars live off 1", None), ("events ", None), ("events\n", None), (" events", None),
                           ("Events", None), ("len", None), ("power", None), ("then", None), ("since", None),
                           ("fits", None), ("fits split", None), ("fits split 20 ", None), ("power 3 3", None),
                           ("then m m", None), ("tally", None), ("bars bars prime 2", None), ("bars  prime 2", None)):
            self.assertEqual(outcome(one.say, row), right or barred_row(row), row)
        self.assertEqual([one.say("log"), one.say("count")], ["-", "3^1 5^1"])

    def test_full(self):
        one = Desk()
        for row in ["live off 1", *["prime 2", "drop 2"] * 20]:
            one.say(row)
        self.assertEqual([one.say("bars note a"), one.say("events"), outcome(one.say, "note a")],
                         ["full", "40", f"InvalidEvent {written(('note', 'a'))} full"])

    def test_two_desks_beside_each_other(self):
        one, other = Desk(), Desk()
        one.say("live off 2^1")
        self.assertEqual(outcome(other.say, "count"), barred_row("count"))
        other.say("live off 3^1")
        one.say("prime 5")
        self.assertEqual([one.say("count"), other.say("count"), one.tally(), other.tally()],
                         ["2^1 5^1", "3^1", (3, 3), (3, 3)])
        one.say("live off 1")
        self.assertEqual([one.say("log"), other.say("count"), one.tally()], ["-", "3^1", (5, 5)])

    def test_all_events_and_names(self):
        for start in starts()[::5]:
            first = f"live {start[1]} {count_text(start[0])}"
            for event in EVENTS:
                self.follow([first, f"bars {plain_line(event)}", plain_line(event), "log", "undo"])
            for name in NAMES:
                self.follow([first, f"then {name}", f"note {name}", f"then {name}", f"since {name}"])


class Form(unittest.TestCase):
    def test_names_and_places(self):
        self.assertEqual([Desk.__bases__, Desk.__module__], [(object,), desks.__name__])
        self.assertEqual(list(inspect.signature(Desk).parameters), [])
        self.assertEqual(list(inspect.signature(Desk().say).parameters), ["row"])
        self.assertEqual(list(inspect.signature(Desk().tally).parameters), [])
        for name in ("say", "tally"):
            self.assertTrue(inspect.isfunction(vars(Desk)[name]))

    def test_tally(self):
        one = Desk()
        self.assertEqual(written(one.tally()), written((0, 0)))
        for many, row in enumerate(["count", "live off 1", "count", "prime 4", "drop 2", "undo", "", "live"], 1):
            outcome(one.say, row)
            self.assertEqual(written(one.tally()), written((many, many)))

    def test_answers_are_strings(self):
        one = Desk()
        one.say("live off " + count_text(FIFTEEN))
        for row in ["note m", "undo", "note m", *[row for row in BARE if row != "undo"], "bars prime 5", "fits split 20",
                    "power 3", "then m", "since m", "prime 17", "live off " + count_text(SIX)]:
            self.assertIs(type(one.say(row)), str, row)
