"""Lines of events and logs, written and read: [76], [77]."""

import unittest
from itertools import product

from forcedtables.counttexts import count_text
from forcedtables.eventreadings import read_event, read_log
from forcedtables.eventtexts import event_line, log_lines
from forcedtables.replaying import is_log
from tests.livesamples import (EIGHTS, EVENTS, HOLDS, LARGE, STARTS, can_start, is_real_event, plain_line, plain_words,
                               starts)
from tests.samples import (FIFTEEN, PRIMES, PRIME_TABLE, SIX, any_values, changed, is_real_prime, outcome, plain_value,
                           written)

LOG = (("live", FIFTEEN, "cyclic"), ("drop", 5), ("note", "abc"), ("hold", "off"), ("prime", 9973))
LINES = ["live cyclic 3^1 5^1", "drop 5", "note abc", "hold off", "prime 9973"]
MORE = ["", "0", "1", "01", "2", "02", "2^1", "3^1", "9973", "10007", "prime", "drop", "note", "hold", "live", "off",
        "cyclic", "Cyclic", "split", "a", "abcdefghi", "A", "a\n", "\n", "prime\n", "2\n", "-", "+2", "2.0", "9" * 70]


def fault(line, field):
    """The outcome of a call that raises InvalidText."""
    return f"InvalidText {hex(line)} {hex(field)}"


def plain_number(word):
    """The number that a word of digits without a leading zero writes, or None."""
    if word and all(sign in "0123456789" for sign in word) and (word == "0" or word[0] != "0") and len(word) <= 60:
        return int(word)
    return None


def plain_event_field(text):
    """The event that a text writes, or the field of what is wrong with it, by [77] read once more."""
    words = text.split(" ")
    if words[0] not in ("prime", "drop", "note", "hold"):
        return None, 0
    if len(words) < 2:
        return None, 1
    about = plain_number(words[1]) if words[0] in ("prime", "drop") else words[1]
    if not is_real_event((words[0], about)):
        return None, 1
    return ((words[0], about), None) if len(words) == 2 else (None, 2)


def plain_start_field(text):
    """The first element that a text writes, or the field of what is wrong with it, by [77] read once more."""
    words = text.split(" ")
    if words[0] != "live":
        return None, 0
    if len(words) < 2 or words[1] not in HOLDS:
        return None, 1
    if len(words) < 3:
        return None, 2
    count = []
    if words[2:] != ["1"]:
        for at, word in enumerate(words[2:], 2):
            pair = [plain_number(part) for part in word.split("^")]
            if word == "1" and at == 2:
                return None, 3
            if len(pair) != 2 or not is_real_prime(pair[0]) or pair[1] not in range(1, 7):
                return None, at
            if count and pair[0] <= count[-1][0]:
                return None, at
            count.append(tuple(pair))
    name = can_start(tuple(count), words[1])
    return (("live", tuple(count), words[1]), None) if name is None else (None, {"count": 2, "hold": 1}[name])


def right_event(text):
    """What read_event has to say of a text."""
    event, field = plain_event_field(text)
    return written(event) if field is None else fault(0, field)


def right_log(lines):
    """What read_log has to say of lines."""
    log = []
    for line, text in enumerate(lines or [""]):
        part, field = plain_event_field(text) if line else plain_start_field(text)
        if field is not None:
            return fault(line, field)
        log.append(part)
    return written(tuple(log))


class Written(unittest.TestCase):
    def test_events(self):
        for event in EVENTS + [("prime", 101), ("drop", 2), ("note", "z"), ("hold", "commute")]:
            self.assertEqual(written(event_line(event)), written(plain_line(event)))
            self.assertEqual(event_line(event=event), plain_line(event))

    def test_logs(self):
        self.assertEqual([log_lines(LOG), log_lines(log=LOG), type(log_lines(LOG))], [LINES, LINES, list])
        for count, hold in starts():
            for events in ((), (("prime", 2),), tuple(EVENTS)):
                right = [f"live {hold} {count_text(count)}", *[plain_line(event) for event in events]]
                self.assertEqual(written(log_lines((("live", count, hold), *events))), written(right))
        self.assertEqual(log_lines((("live", (), "off"),)), ["live off 1"])

    def test_what_is_returned_is_new(self):
        first = log_lines(LOG)
        first.append("prime 2")
        self.assertEqual(log_lines(LOG), LINES)

    def test_what_is_written_is_read(self):
        for event in EVENTS:
            self.assertEqual(written(read_event(event_line(event))), written(event))
        for start in starts():
            log = (("live", *start), *EVENTS[::-1])
            self.assertTrue(is_log(log))
            self.assertEqual(written(read_log(log_lines(log))), written(log))


class Events(unittest.TestCase):
    def follow(self, text, right):
        """See that the reader says so, and that [77] read once more does."""
        self.assertEqual([outcome(read_event, text), right_event(text)], [right, right], text)

    def test_known_ones(self):
        self.follow("prime 101", written(("prime", 101)))
        self.follow("hold split", written(("hold", "split")))
        self.follow("note abcdefgh", written(("note", "abcdefgh")))
        self.follow("drop 9973", written(("drop", 9973)))
        self.assertEqual(read_event(text="hold off"), ("hold", "off"))

    def test_all_small_numbers(self):
        for number in range(300):
            right = written(("prime", number)) if number in PRIME_TABLE else fault(0, 1)
            self.follow(f"prime {number}", right)
            self.follow(f"drop 0{number}", fault(0, 1))

    def test_words_that_cannot_stand(self):
        for text, field in (("", 0), (" ", 0), ("\n", 0), ("Prime 2", 0), ("prime\n2", 0), ("prime", 1), ("note", 1),
                            ("hold", 1), ("drop", 1), ("prime ", 1), ("prime  2", 1), ("prime 91", 1), ("prime 2\n", 1),
                            ("prime 2 ", 2), ("prime 2 2", 2), ("prime 2\n2", 1), ("prime -2", 1), ("prime +2", 1),
                            ("prime 2^1", 1), ("prime 10007", 1), ("prime " + "9" * 61, 1), ("prime two", 1),
                            ("note a", None), ("note ", 1), ("note abcdefghi", 1), ("note a1", 1), ("note A", 1),
                            ("note a\n", 1), ("note a b", 2), ("note  a", 1), ("hold on", 1), ("hold off ", 2),
                            ("hold Off", 1), ("hold cyclic commute", 2), ("live off 1", 0), ("undo", 0), ("put 2", 0),
                            (" prime 2", 0), ("prime\t2", 0), ("note prime", None), ("hold prime", 1), ("prime note", 1)):
            right = written(tuple(text.split(" "))) if field is None else fault(0, field)
            self.follow(text, right)

    def test_two_faults(self):
        for text, field in (("Prime 4", 0), ("Prime 4 4", 0), ("prime 4 4", 1), ("prime 4 ", 1), ("  ", 0), ("prime  ", 1),
                            ("note 1 1", 1), ("hold", 1)):
            self.follow(text, fault(0, field))

    def test_changed(self):
        for line in ("prime 101", "drop 2", "note ab", "hold split", "hold off"):
            for text in changed(line, MORE):
                self.assertEqual(outcome(read_event, text), right_event(text), text)

    def test_any_strings(self):
        for text in any_values():
            if type(text) is str:
                self.assertEqual(outcome(read_event, text), right_event(text))

    def test_all_words_beside_each_other(self):
        for size in range(1, 4):
            for words in product(MORE[::2] if size == 3 else MORE, repeat=size):
                text = " ".join(words)
                self.assertEqual(outcome(read_event, text), right_event(text), text)


class Logs(unittest.TestCase):
    def follow(self, lines, right):
        """See that the reader says so, and that [77] read once more does."""
        self.assertEqual([outcome(read_log, lines), right_log(lines)], [right, right], lines)

    def test_known_ones(self):
        self.follow(LINES, written(LOG))
        self.assertEqual([read_log(lines=LINES), type(read_log(LINES))], [LOG, tuple])
        self.follow(["live off 1"], written((("live", (), "off"),)))
        # Events by form, possible or not.
        self.follow(["live off 1", "drop 2", "hold off", "hold off"],
                    written((("live", (), "off"), ("drop", 2), ("hold", "off"), ("hold", "off"))))

    def test_no_lines(self):
        self.follow([], fault(0, 0))
        self.follow([""], fault(0, 0))
        self.follow(["", ""], fault(0, 0))

    def test_first_lines(self):
        for text, field in (("live", 1), ("live ", 1), ("live off", 2), ("live off ", 2), ("live on 1", 1), ("live 1", 1),
                            ("Live off 1", 0), (" live off 1", 0), ("live  off 1", 1), ("live off  1", 2),
                            ("live off 1 ", 3), ("live off 1 1", 3), ("live off 1 2^1", 3), ("live off 2^1 1", 3),
                            ("live off 2^1 ", 3), ("live off 2^1  3^1", 3), ("live off 3^1 2^1", 3), ("live off 4^1", 2),
                            ("live off 2^7", 2), ("live off 2^0", 2), ("live off 2", 2), ("live off 2^1^1", 2),
                            ("live off 2^1 2^1", 3), ("live off 02^1", 2), ("live off 10007^1", 2), ("live 1 off", 1),
                            ("live off off 1", 2), ("live off 0", 2), ("live off ()", 2), ("live off\n1", 1),
                            ("prime 2", 0), ("live prime 2", 1), ("live off 2^1 3^x 5^y", 3), ("live off 1\n", 2)):
            self.follow([text], fault(0, field))
            # What is wrong with later lines comes behind.
            self.follow([text, ""], fault(0, field))
            self.follow([text, "prime 2", "prime"], fault(0, field))

    def test_of_which_no_live_can_be_made(self):
        nine = " ".join(f"{prime}^1" for prime in PRIMES[:9])
        large = " ".join(f"{prime}^6" for prime in PRIMES[-2:])
        for hold in HOLDS:
            self.follow([f"live {hold} {nine}"], fault(0, 2))
            self.follow([f"live {hold} {large}"], fault(0, 2))
            self.follow([f"live {hold} {nine} 2^1"], fault(0, 11))
            self.follow([f"live {hold} {nine} "], fault(0, 11))
        for hold in HOLDS[1:]:
            self.follow([f"live {hold} 2^1 3^1"], fault(0, 1))
            self.follow([f"live {hold} 2^1 3^1 4^1"], fault(0, 4))
            self.follow([f"live {hold} 2^1 3^1", ""], fault(0, 1))
        self.follow(["live commute 2^3"], fault(0, 1))
        self.follow(["live split 2^3"], written((("live", ((2, 3),), "split"),)))
        self.follow(["live cyclic 3^2"], fault(0, 1))
        self.assertEqual(plain_value(LARGE) // 10 ** 39, 9)
        for count in (EIGHTS, LARGE, SIX):
            self.follow([f"live off {count_text(count)}"], written((("live", count, "off"),)))

    def test_all_beginnings(self):
        for count, hold in product(STARTS, HOLDS):
            right = right_log([f"live {hold} {count_text(count)}"])
            self.follow([f"live {hold} {count_text(count)}"], right)
            self.assertIs(right.startswith("tuple"), hold == "off" or hold in plain_words(count))

    def test_later_lines(self):
        for at in range(1, len(LINES)):
            for text, field in (("", 0), ("prime", 1), ("prime 4", 1), ("prime 2 ", 2), ("live off 1", 0), (" ", 0),
                                ("note a b", 2), ("hold on", 1)):
                self.follow(LINES[:at] + [text] + LINES[at:], fault(at, field))
                self.follow(LINES[:at] + [text], fault(at, field))
                self.follow(LINES[:at] + [text, "", "prime"], fault(at, field))

    def test_lines_changed(self):
        for at, line in enumerate(LINES):
            for text in changed(line, MORE):
                if "\n" not in text:
                    lines = LINES[:at] + [text] + LINES[at + 1:]
                    self.assertEqual(outcome(read_log, lines), right_log(lines), lines)

    def test_first_line_with_newlines_changed(self):
        for line in ("live off 2^1 3^2", "live split 1", "live cyclic 3^1 5^1"):
            for text in changed(line, MORE + ["2^6", "5^1", "1", "live"]):
                self.assertEqual(outcome(read_log, [text]), right_log([text]), text)

    def test_lines_put_in_left_out_and_exchanged(self):
        for at in range(len(LINES)):
            for lines in (LINES[:at] + LINES[at + 1:], LINES[:at] + LINES[at:at + 2][::-1] + LINES[at + 2:],
                          LINES[:at] + [LINES[0]] + LINES[at:], LINES[:at] + [""] + LINES[at:], LINES[:at]):
                self.assertEqual(outcome(read_log, lines), right_log(lines), lines)

    def test_what_is_handed_in_stays(self):
        for lines in (list(LINES), [], ["live off 1", "prime 4"], ["live"]):
            before = list(lines)
            outcome(read_log, lines)
            self.assertEqual(lines, before)
