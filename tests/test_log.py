"""[48], [49] and clearfloor/log.py in the interface."""

import unittest

from clearfloor.errors import ClearfloorError, LineError
from clearfloor.events import why_not
from clearfloor.log import read_event, read_log, read_number, read_order, write_event, write_log
from walks import made, walks

LETTERS = "ABCDEFGHIJKLMNOPQRSTUVWXYZ"
PAIRS = [
    (("order", 0, 1), "order A B"),
    (("order", 7, 0), "order H A"),
    (("order", 25, 24), "order Z Y"),
    (("order", 2, 2), "order C C"),
    (("go", 3), "go 3"),
    (("go", 0), "go 0"),
    (("go", 10), "go 10"),
    (("go", 999999), "go 999999"),
    (("fail", 3), "fail 3"),
    (("fail", 11), "fail 11"),
    (("tow", 3), "tow 3"),
    (("tow", 120), "tow 120"),
]
# Figures that are not ASCII, but that int and isdigit take as figures.
STRANGE = ["\u0663", "\u0967", "\u00b2", "\uff13", "1\u0660"]


def near_lines():
    """Lines that are nearly events."""
    lines = ["", " ", "go", "fail", "tow", "order", "order A", "order B ", "go ", "stop 3", "3", "A B", "go A"]
    lines += ["order 0 1", "order 00 01"]
    for line in ("go 3", "fail 3", "tow 3", "order A B"):
        lines += [" " + line, line + " ", line + "\t", "\t" + line, line.replace(" ", "  "), line.replace(" ", "\t")]
        lines += [line.upper() + "x", line.capitalize(), line + " 4", line + " B", line + "\r", line + "\v", line + ","]
        lines += [line.replace(" ", ""), line.replace(" ", "\u00a0"), line + "\n"]
    lines += ["GO 3", "FAIL 3", "TOW 3", "ORDER A B", "Go 3", "order a B", "order A b", "order a b", "order A  B"]
    for word in ("go", "fail", "tow"):
        numbers = ["00", "03", "007", "000003", "1000000", "1234567", "0000000", "-1", "+1", "-0", "1.0", "1e3", "0x1"]
        lines += [word + " " + number for number in numbers + ["1_0", "1,0", "3a", "a3", "", "#"] + STRANGE]
        lines += [word + " 1 2", word + " A B"]
    lines += ["order AB", "order AB C", "order A BC", "order  A", "order A ", "order A B C", "order A 1", "order 1 A"]
    lines += ["order @ A", "order A [", "order A `", "order \u00c4 A", "order A \u0391", "order A \uff22", "order A -"]
    return lines


class EventTest(unittest.TestCase):
    def test_the_line_of_each_kind(self):
        for event, line in PAIRS:
            self.assertEqual(write_event(event), line)

    def test_the_event_of_each_line(self):
        for event, line in PAIRS:
            self.assertEqual(read_event(line), event)
            self.assertIsInstance(read_event(line), tuple)

    def test_all_letters(self):
        for start, letter in enumerate(LETTERS):
            self.assertEqual(write_event(("order", start, 0)), "order " + letter + " A")
            self.assertEqual(read_event("order A " + letter), ("order", 0, start))
            self.assertEqual(read_event("order " + letter + " Z"), ("order", start, 25))

    def test_near_lines_that_are_none(self):
        for line in near_lines():
            self.assertIsNone(read_event(line), repr(line))

    def test_numbers_of_one_to_six_figures(self):
        for word in ("go", "fail", "tow"):
            for number in (0, 1, 9, 10, 99, 100, 999, 1000, 99999, 100000, 999999):
                self.assertEqual(read_event(f"{word} {number}"), (word, number))


class ReadNumberTest(unittest.TestCase):
    def test_numbers(self):
        for number in (0, 1, 2, 3, 4, 5, 6, 7, 8, 9, 10, 20, 101, 1234, 56789, 100000, 999999):
            self.assertEqual(read_number(str(number)), number)

    def test_none(self):
        texts = ["", "00", "01", "000000", "0000000", "1000000", "12345678", "-1", "+1", " 1", "1 ", "1\n", "\t1"]
        for text in texts + ["1.0", "a", "1a", "A", "0x1", "1_0", "-", " ", "\n"] + STRANGE:
            self.assertIsNone(read_number(text), repr(text))


class ReadOrderTest(unittest.TestCase):
    def test_two_letters(self):
        self.assertEqual(read_order(["A", "B"]), ("order", 0, 1))
        self.assertEqual(read_order(["Z", "I"]), ("order", 25, 8))
        self.assertEqual(read_order(["H", "H"]), ("order", 7, 7))

    def test_none(self):
        rows = [[], ["A"], ["A", "B", "C"], ["", ""], ["A", ""], ["", "A"], ["AB", "C"], ["A", "BC"], ["ABC", "XYZ"]]
        rows += [["a", "B"], ["A", "b"], ["1", "A"], ["A", "1"], ["A", " "], [" A", "B"], ["@", "A"], ["A", "["]]
        for parts in rows + [["\u00c4", "A"], ["A", "\uff22"]]:
            before = list(parts)
            self.assertIsNone(read_order(parts), parts)
            self.assertEqual(parts, before)


class LogTest(unittest.TestCase):
    def check_fault(self, text, line):
        with self.assertRaises(LineError) as caught:
            read_log(text)
        self.assertEqual(caught.exception.line, line, repr(text))
        self.assertIsInstance(caught.exception, ClearfloorError)

    def test_no_events_and_the_empty_string(self):
        self.assertEqual(write_log([]), "")
        self.assertEqual(read_log(""), [])

    def test_lines_joined_by_line_feeds(self):
        events = [event for event, _ in PAIRS]
        text = "\n".join(line for _, line in PAIRS)
        self.assertEqual(write_log(events), text)
        self.assertEqual(read_log(text), events)
        self.assertEqual(write_log([("go", 3)]), "go 3")
        self.assertEqual(read_log("go 3"), [("go", 3)])

    def test_a_final_line_feed(self):
        self.check_fault("go 3\n", 2)
        self.check_fault("go 3\nfail 3\n", 3)
        self.check_fault("\n", 1)

    def test_the_first_line_that_is_not_an_event(self):
        self.check_fault("stop", 1)
        self.check_fault(" ", 1)
        self.check_fault("\ngo 3", 1)
        self.check_fault("go 3\n\ngo 3", 2)
        self.check_fault("go 3\nfail 3\ngo x\ntow", 3)
        self.check_fault("go 3\r\nfail 3", 1)
        self.check_fault("go 3\vfail 3", 1)
        self.check_fault("go 3\x0cfail 3\ngo 3", 1)
        for line in near_lines():
            if line and "\n" not in line:
                self.check_fault("tow 1\n" + line + "\ngo 03", 2)

    def test_a_station_that_no_floor_has_is_read(self):
        self.assertEqual(read_log("order A Z\norder I Q"), [("order", 0, 25), ("order", 8, 16)])
        fleet = made("#A#\n+.b", [(4,)])
        self.assertEqual(why_not(fleet, read_event("order A Z")), "no such station")
        self.assertIsNone(why_not(fleet, read_event("order A B")))

    def test_writing_and_reading_undo_one_another(self):
        rows = {}
        for _, event, behind in walks(seeds=2):
            rows.setdefault(id(behind.floor), [behind]).append(event)
        for _, *events in rows.values():
            self.assertEqual(read_log(write_log(events)), events)
            text = write_log(events)
            self.assertEqual(write_log(read_log(text)), text)
            self.assertEqual(len(text.split("\n")), len(events))

    def test_lists(self):
        events = [("go", 1), ("order", 0, 1)]
        write_log(events)
        self.assertEqual(events, [("go", 1), ("order", 0, 1)])
        for text, wanted in (("", []), ("go 1", [("go", 1)])):
            read_log(text).append(9)
            self.assertEqual(read_log(text), wanted)
