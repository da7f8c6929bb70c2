"""[54] to [56] and clearfloor/journal.py in the interface."""

import copy
import unittest

from clearfloor.device import Device
from clearfloor.errors import ClearfloorError, LimitError, PowerCut
from clearfloor.journal import Journal, format_device, valid_area
from test_signs import ROW


class Spy(Device):
    """A device that notes each write as a tuple of its place and its row."""

    def __init__(self, size, *, power=None):
        super().__init__(size, power=power)
        self.noted = []

    def write(self, start, row):
        self.noted.append((start, list(row)))
        super().write(start, row)


def plain(text):
    """The bytes of a record, by the words of [53] and [54]."""
    return [1, len(text) & 255, len(text) >> 8] + [ROW.index(sign) + 1 for sign in text]


def made(size, texts=()):
    """A journal with records, and its device with nothing noted."""
    device = Spy(size)
    journal = format_device(device)
    for text in texts:
        journal.write_record(text)
    device.noted.clear()
    return journal, device


class JournalTest(unittest.TestCase):
    def check_full(self, device, action):
        before = (list(device.data), device.written, device.power)
        with self.assertRaises(LimitError) as caught:
            action()
        self.assertEqual(caught.exception.reason, "journal is full")
        self.assertIsInstance(caught.exception, ClearfloorError)
        self.assertEqual((device.data, device.written, device.power), before)


class FormatTest(JournalTest):
    def test_the_bytes_of_an_empty_journal(self):
        for size in (3, 4, 5, 6, 21, 22):
            device = Spy(size)
            journal = format_device(device)
            self.assertIsInstance(journal, Journal)
            self.assertIs(journal.device, device)
            self.assertEqual(device.data, [1] + [0] * (size - 1))
            self.assertEqual(device.noted, [(0, [0]), (1, [0]), (0, [1])])
            self.assertEqual(device.written, 3)
            self.assertEqual((valid_area(device), journal.texts()), (1, []))

    def test_the_other_bytes_stay(self):
        for header in (0, 1, 2, 9):
            device = Device(9)
            device.write(0, [header, 1, 1, 0, 4, 5, 6, 7, 8])
            format_device(device)
            self.assertEqual(device.data, [1, 0, 1, 0, 4, 5, 6, 7, 8])
            self.assertEqual(Journal(device).texts(), [])

    def test_devices_of_fewer_than_three_bytes(self):
        for size in (0, 1, 2):
            device = Spy(size)
            self.check_full(device, lambda: format_device(device))
            self.assertEqual(device.noted, [])
            device = Device(size, power=0)
            self.check_full(device, lambda: format_device(device))

    def test_a_cut_at_each_byte(self):
        for texts in ([], ["AB"], ["x", ""]):
            for power in range(3):
                journal, device = made(31, texts)
                journal.rewrite(texts + ["!"])
                before = list(device.data)
                device.recharge(power)
                with self.assertRaises(PowerCut) as caught:
                    format_device(device)
                self.assertEqual(caught.exception.written, device.written)
                self.assertEqual(valid_area(device), 2 if power == 0 else None)
                self.assertEqual(device.data[2:], before[2:])
                device.recharge()
                journal = format_device(device)
                self.assertEqual((valid_area(device), journal.texts()), (1, []))
                journal.write_record("on")
                self.assertEqual(Journal(device).texts(), ["on"])

    def test_just_enough_power(self):
        device = Device(9, power=3)
        self.assertEqual(format_device(device).texts(), [])
        self.assertEqual((device.power, valid_area(device)), (0, 1))


class ValidAreaTest(JournalTest):
    def test_each_header(self):
        for size in (1, 3, 8):
            device = Device(size)
            for header in range(256):
                device.write(0, [header])
                self.assertEqual(valid_area(device), header if header in (1, 2) else None)

    def test_a_new_device_has_none(self):
        self.assertIsNone(valid_area(Device(9)))
        self.assertIsNone(valid_area(Device(0)))


class RecordTest(JournalTest):
    def test_the_bytes_of_records(self):
        journal, device = made(31)
        self.assertIsNone(journal.write_record("AB"))
        self.assertEqual(device.data, [1, 1, 2, 0, 35, 36] + [0] * 25)
        self.assertEqual(device.noted, [(2, [2, 0, 35, 36, 0]), (1, [1])])
        device.noted.clear()
        journal.write_record("")
        self.assertEqual(device.data, [1, 1, 2, 0, 35, 36, 1, 0, 0] + [0] * 22)
        self.assertEqual(device.noted, [(7, [0, 0, 0]), (6, [1])])
        journal.write_record("\n~\t")
        self.assertEqual(device.data, [1, 1, 2, 0, 35, 36, 1, 0, 0, 1, 3, 0, 1, 96, 2] + [0] * 16)
        self.assertEqual(journal.texts(), ["AB", "", "\n~\t"])

    def test_bytes_that_stand_behind_are_written_over(self):
        device = Device(21)
        device.write(0, [7] * 21)
        journal = format_device(device)
        journal.write_record("A")
        self.assertEqual(device.data, [1, 1, 1, 0, 35, 0] + [7] * 15)
        journal.write_record("")
        self.assertEqual(device.data, [1, 1, 1, 0, 35, 1, 0, 0, 0] + [7] * 12)
        self.assertEqual(journal.texts(), ["A", ""])

    def test_every_sign(self):
        journal, device = made(301)
        journal.write_record("".join(ROW))
        self.assertEqual(device.data[1:101], [1, 96, 0] + list(range(1, 97)) + [0])
        self.assertEqual(journal.texts(), ["".join(ROW)])

    def test_a_length_over_255(self):
        for many, low, high in ((255, 255, 0), (256, 0, 1), (300, 44, 1), (512, 0, 2), (1027, 3, 4)):
            journal, device = made(2301)
            journal.write_record("a" * many)
            journal.write_record("b")
            wanted = [1, 1, low, high] + [67] * many + [1, 1, 0, 68, 0]
            self.assertEqual(device.data[:many + 9], wanted)
            self.assertEqual(journal.texts(), ["a" * many, "b"])

    def test_the_second_area(self):
        for size in (31, 32):
            journal, device = made(size, ["old"])
            journal.rewrite(["C"])
            device.noted.clear()
            journal.write_record("DE")
            self.assertEqual(device.noted, [(21, [2, 0, 38, 39, 0]), (20, [1])])
            self.assertEqual(device.data[16:27], [1, 1, 0, 37, 1, 2, 0, 38, 39, 0, 0])
            self.assertEqual(journal.texts(), ["C", "DE"])

    def test_what_is_read_is_what_was_written(self):
        texts = ["robots 2 patience 4\n#A#\n+.b", "order A B", "", "go 0\ngo 0", "undo", "log\ngo 1", "\n", "\t ~"]
        for size in (301, 302):
            journal, device = made(size)
            for many in range(len(texts)):
                self.assertEqual(journal.texts(), texts[:many])
                journal.write_record(texts[many])
            self.assertEqual(Journal(device).texts(), texts)
            row = [byte for text in texts for byte in plain(text)]
            self.assertEqual(device.data[1:len(row) + 2], row + [0])

    def test_lists(self):
        journal, _ = made(99, ["a", "b"])
        journal.texts().append("c")
        self.assertEqual(journal.texts(), ["a", "b"])
        rows = ["c", "d"]
        journal.rewrite(rows)
        rows.append("e")
        self.assertEqual(journal.texts(), ["c", "d"])


class RoomTest(JournalTest):
    def test_sizes(self):
        # The areas of 21 and 22 bytes have 10 bytes each; a record of 6 characters and its end fill one.
        for size, room in ((3, -3), (4, -3), (5, -2), (7, -1), (8, -1), (9, 0), (10, 0), (11, 1), (21, 6), (22, 6)):
            journal, _ = made(size)
            self.assertEqual(journal.room(), room, size)

    def test_behind_records(self):
        journal, _ = made(61)
        self.assertEqual(journal.room(), 26)
        journal.write_record("abcd")
        self.assertEqual(journal.room(), 19)
        journal.write_record("")
        self.assertEqual(journal.room(), 16)
        journal.write_record("a" * 15)
        self.assertEqual(journal.room(), -2)
        journal.rewrite(["abcd"])
        self.assertEqual(journal.room(), 19)
        journal.rewrite([])
        self.assertEqual(journal.room(), 26)

    def test_asking_writes_nothing(self):
        journal, device = made(61, ["a"])
        before = list(device.data)
        device.recharge(0)
        journal.room()
        journal.texts()
        valid_area(device)
        self.assertEqual((device.data, device.noted), (before, []))

    def test_a_record_that_just_fits(self):
        for size in (9, 10, 21, 22, 61, 62):
            for area in (1, 2):
                for texts in ([], ["ab"], [""]):
                    journal, device = made(size)
                    if area == 2:
                        journal.rewrite([])
                    for text in texts:
                        if len(text) <= journal.room():
                            journal.write_record(text)
                    self.check_fit(journal, device, area)

    def check_fit(self, journal, device, area):
        many = journal.room()
        before = journal.texts()
        self.check_full(device, lambda: journal.write_record("x" * (many + 1) if many >= 0 else ""))
        self.check_full(device, lambda: journal.write_record("x" * (many + 50)))
        self.assertEqual(journal.texts(), before)
        if many >= 0:
            half = (device.size - 1) // 2
            other = slice(1 + half, None) if area == 1 else slice(0, 1 + half)
            stays = device.data[other]
            journal.write_record("x" * many)
            self.assertEqual(journal.texts(), before + ["x" * many])
            self.assertEqual(device.data[area * half], 0)
            self.assertEqual(device.data[other], stays)
            self.assertEqual(device.data[1 + 2 * half:], [0] * (device.size - 1 - 2 * half))
            self.assertEqual(journal.room(), -3)
            self.check_full(device, lambda: journal.write_record(""))

    def test_no_room_for_the_empty_record(self):
        journal, device = made(8)
        self.check_full(device, lambda: journal.write_record(""))
        journal, device = made(9)
        journal.write_record("")
        self.assertEqual(device.data, [1, 1, 0, 0, 0, 0, 0, 0, 0])
        self.assertEqual(journal.texts(), [""])

    def test_two_bytes_tell_no_greater_length_than_65535(self):
        journal, device = made(131101)
        self.assertEqual(journal.room(), 65535)
        self.check_full(device, lambda: journal.write_record("a" * 65536))
        self.check_full(device, lambda: journal.rewrite(["a" * 65536]))
        journal.write_record("b" * 65535)
        self.assertEqual(device.data[1:4], [1, 255, 255])
        self.assertEqual(journal.texts(), ["b" * 65535])
        journal.rewrite(["c" * 65535])
        self.assertEqual(journal.texts(), ["c" * 65535])
        journal, device = made(131079)
        self.assertEqual(journal.room(), 65535)
        journal, device = made(131078)
        self.assertEqual(journal.room(), 65534)


class RewriteTest(JournalTest):
    def test_the_bytes_in_either_area(self):
        for size in (31, 32):
            journal, device = made(size, ["AB"])
            self.assertIsNone(journal.rewrite(["C", ""]))
            self.assertEqual(device.noted, [(16, [1, 1, 0, 37, 1, 0, 0, 0]), (0, [2])])
            self.assertEqual(device.data[:7], [2, 1, 2, 0, 35, 36, 0])
            self.assertEqual(device.data[16:25], [1, 1, 0, 37, 1, 0, 0, 0, 0])
            self.assertEqual((valid_area(device), journal.texts()), (2, ["C", ""]))
            device.noted.clear()
            journal.rewrite(["D"])
            self.assertEqual(device.noted, [(1, [1, 1, 0, 38, 0]), (0, [1])])
            self.assertEqual(device.data[:7], [1, 1, 1, 0, 38, 0, 0])
            self.assertEqual(device.data[16:25], [1, 1, 0, 37, 1, 0, 0, 0, 0])
            self.assertEqual((valid_area(device), journal.texts()), (1, ["D"]))

    def test_by_no_records(self):
        journal, device = made(31, ["AB", "C"])
        journal.rewrite([])
        self.assertEqual(device.noted, [(16, [0]), (0, [2])])
        self.assertEqual((valid_area(device), journal.texts()), (2, []))
        device.noted.clear()
        journal.rewrite([])
        self.assertEqual(device.noted, [(1, [0]), (0, [1])])
        self.assertEqual((valid_area(device), journal.texts()), (1, []))

    def test_records_that_just_fit(self):
        for size in (21, 22):
            for area in (1, 2):
                journal, device = made(size)
                if area == 1:
                    journal.rewrite(["z"])
                self.check_full(device, lambda: journal.rewrite(["abcdefg"]))
                self.check_full(device, lambda: journal.rewrite(["ab", "cd"]))
                self.check_full(device, lambda: journal.rewrite(["", "", "", ""]))
                self.assertEqual(journal.texts(), ["z"] if area == 1 else [])
                for texts in (["abcdef"], ["ab", "c"], ["", "", ""], ["", "abc"]):
                    twin = copy.deepcopy(device)
                    Journal(twin).rewrite(texts)
                    self.assertEqual((valid_area(twin), Journal(twin).texts()), (area, texts))
                    self.assertEqual(twin.data[area * 10], 0)
                    self.assertEqual(twin.data[21:], [0] * (size - 21))

    def test_the_smallest_journal(self):
        journal, device = made(3)
        journal.rewrite([])
        self.assertEqual(device.data, [2, 0, 0])
        self.check_full(device, lambda: journal.rewrite([""]))
        journal.rewrite([])
        self.assertEqual(device.data, [1, 0, 0])

    def test_the_old_records_need_not_fit_beside_the_new_ones(self):
        journal, device = made(21, ["abcdef"])
        journal.rewrite(["ghijkl"])
        self.assertEqual(journal.texts(), ["ghijkl"])
        self.assertEqual(device.data[1:11], plain("abcdef") + [0])


class CutTest(JournalTest):
    TEXTS = ["", "a", "go 3", "order A B\ngo 0"]

    def cut(self, texts, area, power):
        journal, device = made(101)
        if area == 2:
            journal.rewrite([])
        for text in texts:
            journal.write_record(text)
        device.recharge(power)
        return journal, device

    def check_on(self, journal, device, texts):
        """Behind a cut, journals go on."""
        device.recharge()
        for again in (journal, Journal(device)):
            twin = copy.deepcopy(device)
            for text in ("", "on"):
                Journal(twin).write_record(text)
            self.assertEqual(Journal(twin).texts(), texts + ["", "on"])
            Journal(twin).rewrite(["anew"])
            self.assertEqual(Journal(twin).texts(), ["anew"])
            self.assertEqual(again.texts(), texts)

    def test_while_a_record_is_appended(self):
        for area in (1, 2):
            for texts in ([], ["ab"], ["", "x"]):
                for text in self.TEXTS:
                    for power in range(len(text) + 4):
                        journal, device = self.cut(texts, area, power)
                        before = device.written
                        with self.assertRaises(PowerCut) as caught:
                            journal.write_record(text)
                        self.assertEqual(caught.exception.written, before + power)
                        self.assertEqual(journal.texts(), texts)
                        self.check_on(journal, device, texts)
                        self.check_again(journal, device, texts, text)

    def check_again(self, journal, device, texts, text):
        journal.write_record(text)
        self.assertEqual(Journal(device).texts(), texts + [text])
        self.check_on(journal, device, texts + [text])

    def test_just_enough_power_to_append(self):
        for area in (1, 2):
            for text in self.TEXTS:
                journal, device = self.cut(["ab"], area, len(text) + 4)
                journal.write_record(text)
                self.assertEqual(device.power, 0)
                self.assertEqual(journal.texts(), ["ab", text])

    def test_while_records_are_replaced(self):
        for area in (1, 2):
            for texts in ([], ["ab"], ["", "x"]):
                for rows in ([], [""], ["log"], ["go 0", "", "go 1"]):
                    many = sum(len(row) + 3 for row in rows) + 2
                    for power in range(many + 1):
                        self.check_replaced(texts, rows, area, power, many)

    def check_replaced(self, texts, rows, area, power, many):
        journal, device = self.cut(texts, area, power)
        before = device.written
        if power == many:
            journal.rewrite(rows)
            self.assertEqual((device.power, journal.texts()), (0, rows))
        else:
            with self.assertRaises(PowerCut) as caught:
                journal.rewrite(rows)
            self.assertEqual(caught.exception.written, before + power)
            self.assertEqual(journal.texts(), texts)
        self.check_on(journal, device, rows if power == many else texts)
        journal.rewrite(rows)
        self.assertEqual(Journal(device).texts(), rows)
        self.check_on(journal, device, rows)
