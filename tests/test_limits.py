"""[59]: what is checked before a change happens, and in which order."""

import unittest

from clearfloor.errors import ClearfloorError, LimitError, LineError, RefusedError, ShutError
from clearfloor.house import Warehouse
from houses import kept, records, shut, state, states

PAIR = "fail 0\ntow 0"
ORDER = "order A B"
LONG = "x" * 4001


def joined(*lines):
    return "\n".join(line for line in lines if line)


def pairs(many):
    """The text of two events for each of many."""
    return "\n".join([PAIR] * many)


def orders(many):
    return "\n".join([ORDER] * many)


def filled(*, many_orders=0, events=0):
    """A warehouse with a journal, with so many orders and at least so many events."""
    house = kept()
    if many_orders:
        house.replay(orders(many_orders))
    more = events - many_orders
    if more > 0:
        odd = more - more // 2 * 2
        house.replay(joined(pairs(more // 2), "fail 1" if odd else ""))
    return house


class LimitTest(unittest.TestCase):
    def check_raises(self, house, change, error, **fields):
        before = (states(house), records(house), list(house.journal.device.data), house.is_shut)
        with self.assertRaises(error) as caught:
            change()
        self.assertEqual({name: getattr(caught.exception, name) for name in fields}, fields)
        self.assertIsInstance(caught.exception, ClearfloorError)
        self.assertEqual((states(house), records(house), list(house.journal.device.data), house.is_shut), before)

    def check_limit(self, house, change, reason):
        self.check_raises(house, change, LimitError, reason=reason)


class OrdersTest(LimitTest):
    def test_199_and_200_orders(self):
        house = filled(many_orders=199)
        self.assertEqual(house.order("A", "B"), 199)
        self.check_limit(house, lambda: house.order("A", "B"), "too many orders")
        self.check_limit(house, lambda: house.drive(seed=1, most=1, count=5), "too many orders")
        house.undo()
        self.assertEqual(house.order("B", "A"), 199)

    def test_a_run_at_199_orders(self):
        house = filled(many_orders=199)
        text = house.drive(seed=3, most=0, count=60)
        self.assertGreater(len(house.fleet.orders), 200)
        self.assertIn("order", text)
        self.check_limit(house, lambda: house.order("A", "B"), "too many orders")
        self.check_limit(house, lambda: house.drive(seed=3, most=0, count=0), "too many orders")

    def test_orders_that_are_done_count(self):
        house = filled(many_orders=199)
        while not house.order_rows()[0][2]:
            house.go(house.order_rows()[0][3])
        self.assertEqual(house.order("A", "B"), 199)
        self.check_limit(house, lambda: house.order("A", "B"), "too many orders")

    def test_more_than_200_orders(self):
        house = filled(many_orders=250)
        self.check_limit(house, lambda: house.order("A", "B"), "too many orders")
        self.check_limit(house, lambda: house.drive(seed=1, most=1, count=5), "too many orders")

    def test_other_changes_at_200_orders(self):
        house = filled(many_orders=200)
        self.assertIsNotNone(house.go(0))
        house.fail(0)
        house.tow(0)
        self.assertEqual(house.replay(ORDER), 1)
        self.assertEqual(len(house.fleet.orders), 201)
        self.assertEqual(house.replay(orders(3)), 3)
        self.assertTrue(house.undo())
        house.pack()

    def test_a_replay_that_goes_beyond_200_orders(self):
        house = filled(many_orders=150)
        self.assertEqual(house.replay(orders(400)), 400)
        self.assertEqual(len(house.fleet.orders), 550)


class EventsTest(LimitTest):
    def test_499_and_500_events(self):
        house = filled(events=499)
        self.assertEqual(len(house.events), 499)
        house.fail(0)
        self.assertEqual(len(house.events), 500)
        for change in self.changes(house):
            self.check_limit(house, change, "too many events")
        self.assertTrue(house.undo())
        self.assertEqual(house.order("A", "B"), 0)
        self.check_limit(house, lambda: house.order("A", "B"), "too many events")

    def changes(self, house):
        """A change of each kind that could happen."""
        return [
            lambda: house.order("A", "B"),
            lambda: house.tow(0),
            lambda: house.drive(seed=1, most=1, count=0),
            lambda: house.drive(seed=1, most=1, count=5),
            lambda: house.replay("tow 0"),
            lambda: house.replay(""),
            lambda: house.replay(orders(3)),
        ]

    def test_each_change_at_499_events(self):
        for change in (
            lambda house: house.order("A", "B"),
            lambda house: house.fail(0),
            lambda house: house.tow(1),
            lambda house: house.go(0),
            lambda house: house.drive(seed=1, most=1, count=1),
            lambda house: house.replay("fail 0"),
        ):
            house = kept()
            house.replay(ORDER + "\n" + pairs(248))
            house.replay("go 1\nfail 1")
            self.assertEqual(len(house.events), 499)
            change(house)
            self.assertEqual(len(house.events), 500)
            self.check_limit(house, lambda: house.replay(""), "too many events")
            self.check_limit(house, lambda: house.go(0), "too many events")
            self.check_limit(house, lambda: house.fail(0), "too many events")
            self.check_limit(house, lambda: house.tow(0), "too many events")

    def test_runs_and_replays_of_no_events_at_499(self):
        house = filled(events=499)
        for _ in range(3):
            self.assertEqual(house.replay(""), 0)
            self.assertEqual(house.drive(seed=1, most=1, count=0), "")
        self.assertEqual(len(house.events), 499)

    def test_going_beyond_by_what_is_added(self):
        house = filled(events=499)
        house.drive(seed=5, most=1, count=80)
        self.assertEqual(len(house.events), 579)
        self.check_limit(house, lambda: house.drive(seed=5, most=1, count=1), "too many events")
        house.undo()
        house.replay(joined("fail 0\ntow 0", pairs(300)))
        self.assertEqual(len(house.events), 499 + 602)
        self.check_limit(house, lambda: house.replay(""), "too many events")
        self.check_limit(house, lambda: house.fail(0), "too many events")

    def test_undo_and_pack_at_500_events(self):
        house = filled(events=501)
        before = states(house)
        self.assertTrue(house.undo())
        self.assertEqual(states(house), before[1:])
        house = filled(events=501)
        house.pack()
        self.assertEqual(states(house), before[:1])
        self.assertFalse(house.undo())


class LengthTest(LimitTest):
    def text(self, many):
        """A log of so many characters."""
        text = joined(pairs((many - 9) // 13 if many == 4000 else 304), orders(1 if many == 4000 else 5))
        self.assertEqual(len(text), many)
        return text

    def test_4000_and_4001_characters(self):
        house = kept()
        self.assertEqual(house.replay(self.text(4000)), 615)
        house = kept()
        self.check_limit(house, lambda: house.replay(self.text(4001)), "log is too long")
        self.check_limit(house, lambda: house.replay(self.text(4001) + "\n" + ORDER), "log is too long")

    def test_it_comes_ahead_of_the_other_errors(self):
        house = filled(events=500)
        self.check_limit(house, lambda: house.replay(LONG), "log is too long")
        self.check_limit(house, lambda: house.replay("go 9\n" * 900), "log is too long")
        self.check_raises(house, lambda: house.replay("x" * 4000), LineError, line=1)


class PlaceTest(LimitTest):
    """The order of the checks."""

    def test_shut_comes_ahead_of_all(self):
        for many_orders, events in ((0, 0), (0, 4), (200, 200), (200, 500), (0, 500)):
            house = shut(filled(many_orders=many_orders, events=events))
            for change in (
                lambda: house.order("A", "B"),
                lambda: house.order("Z", "Z"),
                lambda: house.go(0),
                lambda: house.go(9),
                lambda: house.fail(0),
                lambda: house.fail(-1),
                lambda: house.tow(0),
                lambda: house.tow(1),
                lambda: house.tow(9),
                lambda: house.drive(seed=1, most=1, count=5),
                lambda: house.replay(""),
                lambda: house.replay(LONG),
                lambda: house.replay("x"),
                lambda: house.replay("go 9"),
                lambda: house.replay(PAIR),
                lambda: house.undo(),
                lambda: house.pack(),
            ):
                self.check_raises(house, change, ShutError)

    def test_too_many_orders_comes_ahead_of_too_many_events(self):
        house = filled(many_orders=200, events=500)
        for change in (
            lambda: house.order("A", "B"),
            lambda: house.order("A", "A"),
            lambda: house.order("A", "Z"),
            lambda: house.drive(seed=1, most=1, count=5),
            lambda: house.drive(seed=1, most=1, count=0),
        ):
            self.check_limit(house, change, "too many orders")
        house = filled(many_orders=199, events=500)
        self.check_limit(house, lambda: house.order("A", "A"), "too many events")
        self.check_limit(house, lambda: house.drive(seed=1, most=1, count=0), "too many events")

    def test_limits_come_ahead_of_refusals(self):
        house = filled(many_orders=200)
        for letters in ("AA", "AZ", "ZZ", "CA"):
            self.check_limit(house, lambda: house.order(letters[0], letters[1]), "too many orders")
        house = filled(events=500)
        for letters in ("AA", "AZ", "ZZ", "CA"):
            self.check_limit(house, lambda: house.order(letters[0], letters[1]), "too many events")
        for robot in (-1, 0, 1, 2, 9):
            for change in (house.go, house.fail, house.tow):
                self.check_limit(house, lambda: change(robot), "too many events")

    def test_the_errors_of_a_replay_come_ahead_of_too_many_events(self):
        house = filled(events=500)
        self.check_limit(house, lambda: house.replay(LONG), "log is too long")
        self.check_raises(house, lambda: house.replay("go 0\nx"), LineError, line=2)
        self.check_raises(house, lambda: house.replay("go 9\nx"), LineError, line=2)
        self.check_raises(house, lambda: house.replay("x\n" + "go 0"), LineError, line=1)
        self.check_raises(house, lambda: house.replay("go 9"), RefusedError, reason="no such robot", line=1)
        self.check_raises(house, lambda: house.replay(PAIR + "\ntow 0"), RefusedError, reason="robot is not broken", line=3)
        self.check_limit(house, lambda: house.replay(PAIR), "too many events")

    def test_a_replay_is_refused_by_its_first_line_that_cannot_happen(self):
        house = filled(events=5)
        self.check_raises(house, lambda: house.replay(PAIR + "\n" + PAIR + "\nfail 0\nfail 0\ngo 9"), RefusedError, line=6)

    def test_a_full_journal_comes_last(self):
        house = kept(size=101)
        house.order("A", "B")
        full = 0
        while house.journal.room() >= 6:
            house.fail(1)
            house.tow(1)
        for change, error in (
            (lambda: house.order("A", "A"), RefusedError),
            (lambda: house.go(9), RefusedError),
            (lambda: house.replay("x"), LineError),
            (lambda: house.replay(LONG), LimitError),
        ):
            self.check_raises(house, change, error)
            full += 1
        self.check_limit(house, lambda: house.replay(PAIR), "journal is full")
        self.assertEqual(full, 4)

    def test_without_a_journal(self):
        house = Warehouse("#A#\n+.b", robots=2)
        house.replay(pairs(250))
        before = state(house)
        with self.assertRaises(LimitError):
            house.fail(0)
        self.assertEqual(state(house), before)
