"""[61] to [64]: the records of a warehouse, opening, packing, and losses of power."""

import copy
import unittest

from clearfloor.device import Device
from clearfloor.errors import LimitError, MapError, PowerCut, ShutError
from clearfloor.house import Warehouse, opened
from clearfloor.journal import Journal, format_device, valid_area
from houses import CROSS, FIRST, answers, kept, records, state, states
from walks import STAGES


def reopened(house):
    """The warehouse of what stands on the device of a warehouse."""
    device = copy.deepcopy(house.journal.device)
    device.recharge()
    return opened(Journal(device))


class RecordsTest(unittest.TestCase):
    def check_opened(self, house):
        """What is opened has the fleet, the log and the earlier states, and goes on in the same way."""
        other = reopened(house)
        self.assertIsInstance(other, Warehouse)
        self.assertEqual(states(other), states(house))
        self.assertEqual(answers(other), answers(house))
        self.assertEqual((other.floor.near, other.floor.places), (house.floor.near, house.floor.places))
        self.assertFalse(other.is_shut)
        self.assertEqual(other.journal.texts(), records(house))
        return other


class ChangeRecordsTest(RecordsTest):
    def test_the_first_record(self):
        self.assertEqual(records(kept()), [FIRST])
        house = kept(robots=12, patience=20)
        self.assertEqual(records(house), ["robots 12 patience 20\n#A#\n+.b"])
        text = "\n  # A\t#\n\n\t+.b  \n   \n"
        self.assertEqual(records(kept(text, robots=1, patience=1)), ["robots 1 patience 1\n#A#\n+.b"])
        self.assertEqual(records(kept("+")), ["robots 2 patience 4\n+"])

    def test_the_record_of_each_change(self):
        house = kept()
        wanted = [FIRST]
        for change, record in (
            (lambda: house.order("A", "B"), "order A B"),
            (lambda: house.go(0), "go 0"),
            (lambda: house.fail(1), "fail 1"),
            (lambda: house.replay("go 0\norder B A\ntow 1"), "go 0\norder B A\ntow 1"),
            (lambda: house.tow(1) if house.fleet.robots[1].broken else house.fail(1), "fail 1"),
            (lambda: house.replay(""), ""),
            (lambda: house.drive(seed=1, most=0, count=0), ""),
            (lambda: house.undo(), "undo"),
            (lambda: house.undo(), "undo"),
            (lambda: house.tow(1), "tow 1"),
        ):
            change()
            wanted.append(record)
            self.assertEqual(records(house), wanted)
            self.check_opened(house)
        text = house.drive(seed=8, most=1, count=9)
        self.assertEqual(len(text.split("\n")), 9)
        self.assertEqual(records(house), wanted + [text])
        self.check_opened(house)

    def test_an_undo_without_an_earlier_state_has_no_record(self):
        house = kept()
        self.assertFalse(house.undo())
        self.assertEqual(records(house), [FIRST])
        house.order("A", "B")
        house.undo()
        house.undo()
        house.undo()
        self.assertEqual(records(house), [FIRST, "order A B", "undo"])
        self.check_opened(house)

    def test_the_very_bytes(self):
        house = kept("+", robots=1, patience=1, size=101)
        device = house.journal.device
        # The first record stands in area 2, which was not valid.
        self.assertEqual(valid_area(device), 2)
        text = "robots 1 patience 1\n+"
        self.assertEqual(device.data[51:54], [1, len(text), 0])
        self.assertEqual(device.data[54 + len(text)], 0)
        house.fail(0)
        self.assertEqual(device.data[54 + len(text):58 + len(text)], [1, 6, 0, 72])
        self.assertEqual(device.data[63 + len(text)], 0)

    def test_the_records_of_an_older_warehouse_are_replaced(self):
        journal = kept().journal
        journal.write_record("go 0")
        house = Warehouse("+.", robots=1, journal=journal)
        self.assertIs(house.journal, journal)
        self.assertEqual(journal.texts(), ["robots 1 patience 4\n+."])

    def test_a_device_without_room(self):
        for size in (3, 10, 2 * len(FIRST) + 8):
            device = Device(size)
            journal = format_device(device)
            before = list(device.data)
            with self.assertRaises(LimitError) as caught:
                Warehouse(CROSS, robots=2, journal=journal)
            self.assertEqual(caught.exception.reason, "journal is full")
            self.assertEqual(device.data, before)
        device = Device(2 * len(FIRST) + 9)
        self.assertEqual(records(Warehouse(CROSS, robots=2, journal=format_device(device))), [FIRST])

    def test_a_full_journal(self):
        house = kept(size=2 * (len(FIRST) + 3 + 9 + 12 + 3 + 1) + 1)
        house.replay("fail 0")
        house.replay("order A B")
        self.assertEqual(house.journal.room(), 0)
        before = (states(house), list(house.journal.device.data))
        for change in (
            lambda: house.order("A", "B"),
            lambda: house.go(1),
            lambda: house.fail(1),
            lambda: house.tow(0),
            lambda: house.drive(seed=1, most=1, count=3),
            lambda: house.replay("tow 0"),
            lambda: house.undo(),
        ):
            with self.assertRaises(LimitError) as caught:
                change()
            self.assertEqual(caught.exception.reason, "journal is full")
            self.assertEqual((states(house), list(house.journal.device.data)), before)
            self.assertFalse(house.is_shut)
        house.replay("")
        self.assertEqual(house.journal.room(), -3)
        self.check_opened(house)

    def test_changes_that_are_refused_have_no_record(self):
        house = kept()
        house.order("A", "B")
        for change in (lambda: house.go(1), lambda: house.order("A", "A"), lambda: house.replay("go 0\ngo 9")):
            with self.assertRaises(ValueError):
                change()
            self.assertEqual(records(house), [FIRST, "order A B"])


class OpenTest(RecordsTest):
    def test_a_journal_without_records(self):
        for size in (3, 99):
            with self.assertRaises(LimitError) as caught:
                opened(format_device(Device(size)))
            self.assertEqual(caught.exception.reason, "journal is empty")

    def test_opening_writes_nothing(self):
        house = kept()
        house.replay("order A B\ngo 0")
        house.undo()
        house.fail(0)
        device = house.journal.device
        before = (list(device.data), device.written)
        device.recharge(0)
        journal = Journal(device)
        other = opened(journal)
        self.assertIs(other.journal, journal)
        self.assertEqual((list(device.data), device.written), before)
        self.assertEqual(states(other), states(house))

    def test_records_by_hand(self):
        journal = format_device(Device(999))
        for text in ("robots 3 patience 2\n#A#\n+.b", "order A B\norder B A", "", "go 0", "undo", "fail 2", "undo"):
            journal.write_record(text)
        house = opened(journal)
        self.assertEqual((len(house.fleet.robots), house.fleet.patience), (3, 2))
        self.assertEqual(house.events, [("order", 0, 1), ("order", 1, 0)])
        self.assertEqual([len(events) for _, events in states(house)], [2, 2, 0])

    def test_a_log_record_among_others(self):
        journal = format_device(Device(999))
        for text in (FIRST, "fail 0", "log\ntow 0\norder A B", "go 0"):
            journal.write_record(text)
        house = opened(journal)
        self.assertEqual(house.events, [("fail", 0), ("tow", 0), ("order", 0, 1), ("go", 0)])
        self.assertEqual([len(events) for _, events in states(house)], [4, 3])

    def test_an_opened_warehouse_goes_on(self):
        house = kept()
        house.order("A", "B")
        house.go(0)
        other = self.check_opened(house)
        other.go(0)
        self.assertEqual(other.journal.texts(), records(house) + ["go 0"])
        other = self.check_opened(other)
        other.undo()
        other.undo()
        self.assertEqual(other.events, [("order", 0, 1)])
        self.check_opened(other)
        other.pack()
        self.check_opened(other)

    def test_behind_many_changes(self):
        for text in STAGES:
            house = kept(text, robots=3, patience=2)
            for seed in range(25):
                house.drive(seed=seed, most=1, count=3)
                if seed in (2, 3, 9, 20, 22, 23):
                    house.undo()
                if seed == 14:
                    house.pack()
                if seed > 16 or seed in (0, 3, 9, 14, 15):
                    self.check_opened(house)
            # Ten runs and three undos behind packing, and the state of now.
            self.assertEqual(len(states(house)), 10 - 3 + 1)

    def test_more_than_sixteen_changes_and_as_many_undos(self):
        house = kept()
        for _ in range(20):
            house.fail(1)
            house.tow(1)
        self.check_opened(house)
        for _ in range(16):
            self.assertTrue(house.undo())
            self.check_opened(house)
        self.assertFalse(house.undo())
        self.assertEqual(records(house), [FIRST] + ["fail 1", "tow 1"] * 20 + ["undo"] * 16)
        self.check_opened(house)

    def test_beyond_the_limits(self):
        house = kept()
        house.replay("\n".join(["order A B"] * 390))
        with self.assertRaises(LimitError):
            house.order("A", "B")
        house.replay("\n".join(["fail 1\ntow 1"] * 300))
        self.assertEqual(len(house.events), 990)
        self.check_opened(house)
        house = kept()
        text = house.drive(seed=4, most=1, count=900)
        self.assertGreater(len(text), 4000)
        self.check_opened(house)
        house.pack()
        self.check_opened(house)


class PackTest(RecordsTest):
    def test_with_a_log(self):
        house = kept()
        house.order("A", "B")
        house.go(0)
        house.fail(1)
        house.undo()
        before = state(house)
        self.assertIsNone(house.pack())
        self.assertEqual(records(house), [FIRST, "log\norder A B\ngo 0"])
        self.assertEqual(states(house), [before])
        self.assertFalse(house.undo())
        self.assertEqual(records(house), [FIRST, "log\norder A B\ngo 0"])
        self.check_opened(house)

    def test_without_a_log(self):
        house = kept()
        house.pack()
        self.assertEqual(records(house), [FIRST])
        house.order("A", "B")
        house.undo()
        house.replay("")
        house.pack()
        self.assertEqual(records(house), [FIRST])
        self.assertEqual(len(states(house)), 1)
        self.check_opened(house)

    def test_changes_behind_packing(self):
        house = kept()
        house.order("A", "B")
        house.pack()
        house.go(0)
        house.go(0)
        house.undo()
        self.assertEqual(records(house), [FIRST, "log\norder A B", "go 0", "go 0", "undo"])
        self.check_opened(house)
        self.assertTrue(house.undo())
        self.assertFalse(house.undo())
        self.check_opened(house)
        house.pack()
        self.assertEqual(records(house), [FIRST, "log\norder A B"])
        self.assertEqual(house.journal.texts(), records(house))

    def test_without_a_journal(self):
        house = Warehouse(CROSS, robots=2)
        house.order("A", "B")
        house.go(0)
        before = state(house)
        self.assertIsNone(house.pack())
        self.assertEqual(states(house), [before])
        self.assertFalse(house.undo())
        self.assertIsNone(house.journal)

    def test_a_log_that_has_no_room(self):
        # The record of the log is longer than that of the order by its first line.
        house = kept(size=2 * (len(FIRST) + 3 + 12 + 1) + 1)
        house.order("A", "B")
        before = (states(house), list(house.journal.device.data))
        with self.assertRaises(LimitError) as caught:
            house.pack()
        self.assertEqual(caught.exception.reason, "journal is full")
        self.assertEqual((states(house), list(house.journal.device.data)), before)
        self.assertFalse(house.is_shut)

    def test_packing_makes_room(self):
        house = kept(size=301)
        for _ in range(7):
            house.fail(0)
            house.undo()
        with self.assertRaises(LimitError):
            house.order("A", "B")
        house.pack()
        house.order("A", "B")
        self.assertEqual(records(house), [FIRST, "order A B"])
        self.check_opened(house)


class CutTest(RecordsTest):
    """[62], [64]: a cut at each byte of each change and of packing."""

    def houses(self):
        """Warehouses with some changes behind them, in either area, with and without earlier states."""
        house = kept(size=1001)
        yield house
        house = kept(size=1001)
        house.replay("order A B\ngo 0\nfail 1")
        yield house
        house = copy.deepcopy(house)
        house.go(0)
        house.undo()
        yield house
        house = copy.deepcopy(house)
        house.pack()
        house.replay("go 0\ntow 1")
        house.fail(1)
        yield house

    def changes(self):
        return [
            lambda house: house.order("B", "A"),
            lambda house: house.go(0),
            lambda house: house.fail(0),
            lambda house: house.tow(1),
            lambda house: house.drive(seed=2, most=2, count=3),
            lambda house: house.replay("fail 0\ntow 0"),
            lambda house: house.replay(""),
            lambda house: house.undo(),
            lambda house: house.pack(),
        ]

    def test_a_cut_at_each_byte(self):
        kinds = 0
        for house in self.houses():
            for change in self.changes():
                behind = copy.deepcopy(house)
                written = behind.journal.device.written
                try:
                    change(behind)
                except ValueError:
                    continue
                many = behind.journal.device.written - written
                kinds += many > 0
                for power in range(many):
                    self.check_cut(house, change, power, written, behind)
                self.check_enough(house, change, many, behind)
        self.assertGreater(kinds, 25)

    def check_cut(self, house, change, power, written, behind):
        before = (states(house), answers(house))
        cut = copy.deepcopy(house)
        cut.journal.device.recharge(power)
        with self.assertRaises(PowerCut) as caught:
            change(cut)
        self.assertEqual(caught.exception.written, written + power)
        self.assertTrue(cut.is_shut)
        self.assertEqual((states(cut), answers(cut)), before)
        cut.journal.device.recharge()
        self.check_shut(cut)
        self.assertEqual((states(cut), answers(cut)), before)
        self.check_found(cut, house, behind, change)

    def check_shut(self, cut):
        data = list(cut.journal.device.data)
        for further in self.changes():
            with self.assertRaises(ShutError):
                further(cut)
        self.assertTrue(cut.is_shut)
        self.assertEqual(cut.journal.device.data, data)

    def check_found(self, cut, house, behind, change):
        """What is opened behind a cut is as before the change, or as behind it; and it goes on."""
        other = reopened(cut)
        self.assertIn(states(other), [states(house), states(behind)])
        self.assertFalse(other.is_shut)
        if states(other) == states(house) and states(house) != states(behind):
            change(other)
            self.assertEqual(states(other), states(behind))
            self.check_opened(other)

    def check_enough(self, house, change, many, behind):
        enough = copy.deepcopy(house)
        enough.journal.device.recharge(many)
        change(enough)
        self.assertFalse(enough.is_shut)
        self.assertEqual(states(enough), states(behind))
        self.assertEqual(states(reopened(enough)), states(behind))

    def test_an_undo_that_writes_nothing_needs_no_power(self):
        house = kept()
        house.journal.device.recharge(0)
        self.assertFalse(house.undo())
        self.assertFalse(house.is_shut)

    def test_a_refusal_needs_no_power(self):
        house = kept()
        house.journal.device.recharge(0)
        for change in (lambda: house.go(0), lambda: house.order("A", "A"), lambda: house.replay("x")):
            with self.assertRaises(ValueError) as caught:
                change()
            self.assertNotIsInstance(caught.exception, (PowerCut, ShutError))
        self.assertFalse(house.is_shut)

    def test_a_cut_while_a_warehouse_is_made(self):
        older = kept(size=401)
        older.order("A", "B")
        many = len("robots 1 patience 3\n+.") + 3 + 1 + 1
        for power in range(many + 1):
            journal = copy.deepcopy(older).journal
            journal.device.recharge(power)
            if power == many:
                house = Warehouse("+.", robots=1, patience=3, journal=journal)
                self.assertEqual(records(house), ["robots 1 patience 3\n+."])
            else:
                with self.assertRaises(PowerCut) as caught:
                    Warehouse("+.", robots=1, patience=3, journal=journal)
                self.assertEqual(caught.exception.written, older.journal.device.written + power)
                self.assertEqual(states(opened(journal)), states(older))

    def test_a_text_that_is_no_map_comes_ahead_of_the_cut(self):
        journal = kept().journal
        journal.device.recharge(0)
        with self.assertRaises(MapError):
            Warehouse("?", robots=1, journal=journal)
