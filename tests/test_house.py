"""[57], [58], [60] and the changes of clearfloor/house.py in the interface."""

import unittest

from clearfloor.errors import LineError, MapError, RefusedError
from clearfloor.events import happen, run
from clearfloor.fleet import Fleet
from clearfloor.house import Warehouse
from clearfloor.log import read_log, write_log
from clearfloor.maps import read_floor
from clearfloor.runs import drive
from houses import CROSS, kept, records, state, states
from walks import STAGES, facts_fail, rows_of

A, B = 0, 1


def fleet_behind(events, text=CROSS, robots=2, patience=4):
    return rows_of(run(Fleet(read_floor(text), robots=robots, patience=patience), events))


class HouseTest(unittest.TestCase):
    def check(self, house, events, text=CROSS, robots=2, patience=4):
        self.assertEqual(house.events, events)
        self.assertEqual(rows_of(house.fleet), fleet_behind(events, text, robots, patience))
        self.assertEqual(house.log(), write_log(events))

    def both(self):
        return [Warehouse(CROSS, robots=2), kept()]


class NewTest(HouseTest):
    def test_a_new_warehouse(self):
        for robots in (1, 2, 12):
            for patience in (1, 4, 20):
                house = Warehouse(CROSS, robots=robots, patience=patience)
                self.assertIs(house.fleet.floor, house.floor)
                self.assertEqual(house.floor.near, [[2], [2], [0, 1, 3], [2]])
                self.assertEqual((house.journal, house.is_shut, house.events), (None, False, []))
                self.check(house, [], robots=robots, patience=patience)
                self.assertFalse(house.undo())
        self.assertEqual(Warehouse(CROSS, robots=1).fleet.patience, 4)

    def test_a_journal(self):
        house = kept(robots=3)
        self.assertEqual(house.journal.texts(), ["robots 3 patience 4\n#A#\n+.b"])
        self.assertFalse(house.is_shut)

    def test_a_text_that_is_no_map(self):
        for text, fault in (("", (1, 1, "map is empty")), ("..\n+", (2, 2, "row has 1 tiles, expected 2"))):
            journal = kept().journal
            before = list(journal.device.data)
            for kwargs in ({}, {"journal": journal}):
                with self.assertRaises(MapError) as caught:
                    Warehouse(text, robots=2, **kwargs)
                found = caught.exception
                self.assertEqual((found.line, found.column, found.problem), fault)
            self.assertEqual(journal.device.data, before)

    def test_somewhat_more_robots_and_patience(self):
        for robots, patience in ((13, 4), (2, 21), (15, 40)):
            house = kept(robots=robots, patience=patience)
            house.order("A", "B")
            house.go(0)
            self.check(house, [("order", A, B), ("go", 0)], robots=robots, patience=patience)

    def test_patience_and_robots_at_their_limits(self):
        for robots, patience in ((1, 1), (1, 20), (12, 1), (12, 20)):
            house = kept("a..b\n....\n.CC.", robots=robots, patience=patience)
            for _ in range(3):
                house.drive(seed=robots + patience, most=0, count=20)
            for letters in ("AB", "BC", "CA", "AB"):
                house.order(letters[0], letters[1])
            self.check(house, list(house.events), "a..b\n....\n.CC.", robots, patience)
            serving = [row for row in house.order_rows() if row[3] is not None]
            self.assertLessEqual(len(serving), min(robots, patience))
            self.assertTrue(serving)


class ChangeTest(HouseTest):
    def test_an_order_returns_its_number(self):
        for house in self.both():
            self.assertEqual([house.order("A", "B"), house.order("B", "A"), house.order("A", "B")], [0, 1, 2])
            self.check(house, [("order", A, B), ("order", B, A), ("order", A, B)])

    def test_go_returns_the_act_and_the_place_then(self):
        for house in self.both():
            house.order("A", "B")
            found = [house.go(0) for _ in range(7)]
            wanted = [("on", (1, 0)), ("on", (1, 1)), ("on", (0, 1)), ("load", (0, 1)), ("on", (1, 1)), ("on", (1, 2))]
            self.assertEqual(found, wanted + [("unload", (1, 2))])
            self.assertEqual(house.go(0), ("home", None))
            self.check(house, [("order", A, B)] + [("go", 0)] * 8)

    def test_fail_and_tow_return_none(self):
        for house in self.both():
            self.assertIsNone(house.fail(1))
            self.assertIsNone(house.fail(0))
            self.assertIsNone(house.tow(1))
            self.check(house, [("fail", 1), ("fail", 0), ("tow", 1)])

    def test_drive_returns_the_text_of_its_events(self):
        for text in STAGES:
            for seed in (0, 7, 4294967295):
                house = kept(text, robots=3, patience=2)
                house.order("A", "B")
                events, behind = drive(house.fleet, seed=seed, most=1, count=15)
                self.assertEqual(house.drive(seed=seed, most=1, count=15), write_log(events))
                self.assertEqual(rows_of(house.fleet), rows_of(behind))
                self.check(house, [("order", A, B)] + events, text, 3, 2)
                self.assertIsNone(facts_fail(house.fleet))

    def test_replay_returns_the_number_of_events(self):
        for house in self.both():
            self.assertEqual(house.replay("order A B\ngo 0\ngo 0"), 3)
            self.assertEqual(house.replay("fail 1"), 1)
            self.assertEqual(house.replay(""), 0)
            self.check(house, [("order", A, B), ("go", 0), ("go", 0), ("fail", 1)])

    def test_undo_returns_whether_there_is_an_earlier_state(self):
        for house in self.both():
            self.assertIs(house.undo(), False)
            house.order("A", "B")
            house.go(0)
            self.assertIs(house.undo(), True)
            self.check(house, [("order", A, B)])
            self.assertIs(house.undo(), True)
            self.check(house, [])
            self.assertIs(house.undo(), False)
            self.check(house, [])

    def test_changes_behind_an_undo(self):
        for house in self.both():
            house.order("A", "B")
            house.go(0)
            house.undo()
            house.fail(1)
            house.replay("go 0\ngo 0")
            self.check(house, [("order", A, B), ("fail", 1), ("go", 0), ("go", 0)])
            house.undo()
            self.check(house, [("order", A, B), ("fail", 1)])
            house.undo()
            house.undo()
            self.check(house, [])
            self.assertFalse(house.undo())

    def test_runs_and_replays_are_one_change_each(self):
        for house in self.both():
            house.drive(seed=3, most=1, count=10)
            many = len(house.events)
            self.assertEqual(many, 10)
            house.replay("order A B\norder B A\nfail 1" if not house.fleet.robots[1].broken else "order A B\ntow 1")
            self.assertTrue(house.undo())
            self.assertEqual(len(house.events), many)
            self.assertTrue(house.undo())
            self.check(house, [])
            self.assertFalse(house.undo())

    def test_runs_and_replays_of_no_events_are_a_change_too(self):
        for house in self.both():
            house.order("A", "B")
            before = states(house)
            self.assertEqual(house.replay(""), 0)
            self.assertEqual(house.drive(seed=1, most=0, count=0), "")
            self.assertEqual(states(house), [before[0]] * 2 + before)
            for _ in range(3):
                self.assertTrue(house.undo())
            self.assertFalse(house.undo())
        # Nothing can happen on this floor.
        house = kept("+.", robots=2)
        self.assertEqual(house.drive(seed=1, most=0, count=9), "")
        self.assertTrue(house.undo())

    def test_the_objects_of_earlier_states_stay(self):
        house = Warehouse(CROSS, robots=2)
        house.order("A", "B")
        fleet, events = house.fleet, house.events
        before = (rows_of(fleet), list(events))
        house.go(0)
        house.replay("go 0\nfail 1")
        self.assertEqual((rows_of(fleet), events), before)
        house.undo()
        house.undo()
        self.assertEqual(state(house), before)


class EarlierTest(HouseTest):
    def test_sixteen_earlier_states_and_no_more(self):
        for house in self.both():
            seen = [state(house)]
            for number in range(30):
                if number - number // 2 * 2 == 0:
                    house.fail(1)
                else:
                    house.tow(1)
                seen.append(state(house))
                self.assertEqual(states(house), seen[::-1][:17])
            undone = 0
            while house.undo():
                undone += 1
                self.assertEqual(state(house), seen[::-1][undone])
            self.assertEqual(undone, 16)
            self.check(house, [("fail", 1), ("tow", 1)] * 7)

    def test_exactly_sixteen(self):
        house = Warehouse(CROSS, robots=2)
        for number in range(16):
            house.order("A", "B")
        self.assertEqual(len(states(house)), 17)
        house.replay("")
        self.assertEqual(len(states(house)), 17)
        for _ in range(16):
            self.assertTrue(house.undo())
        self.check(house, [("order", A, B)])
        self.assertFalse(house.undo())

    def test_an_undo_adds_no_state(self):
        house = Warehouse(CROSS, robots=2)
        for _ in range(4):
            house.order("A", "B")
        before = states(house)
        house.undo()
        self.assertEqual(states(house), before[1:])
        house.fail(0)
        self.assertEqual(states(house)[1:], before[1:])


class RefusedTest(HouseTest):
    """[58]: a change that raises changes nothing."""

    def house(self):
        house = kept()
        house.order("A", "B")
        house.go(0)
        house.fail(1)
        return house

    def check_refused(self, house, change, reason, line=0):
        before = (states(house), records(house), list(house.journal.device.data))
        with self.assertRaises(RefusedError) as caught:
            change()
        self.assertEqual((caught.exception.reason, caught.exception.line), (reason, line))
        self.assertEqual((states(house), records(house), list(house.journal.device.data)), before)
        self.assertFalse(house.is_shut)

    def test_orders(self):
        house = self.house()
        for start, goal in (("A", "C"), ("C", "A"), ("Z", "Z"), ("H", "B"), ("C", "C")):
            self.check_refused(house, lambda: house.order(start, goal), "no such station")
        for letter in "AB":
            self.check_refused(house, lambda: house.order(letter, letter), "same station")

    def test_robots(self):
        house = self.house()
        for robot in (-1, -2, 2, 99, 1000000):
            for change in (house.go, house.fail, house.tow):
                self.check_refused(house, lambda: change(robot), "no such robot")
        self.check_refused(house, lambda: house.go(1), "robot is broken")
        self.check_refused(house, lambda: house.fail(1), "robot is broken")
        self.check_refused(house, lambda: house.tow(0), "robot is not broken")
        house.tow(1)
        self.check_refused(house, lambda: house.go(1), "robot has nothing to do")

    def blocked(self):
        """The robot 0 has its load on B and has to come to A, where the robot 1 stands."""
        house = kept()
        house.replay("order B A\ngo 0\norder A B\ngo 1\ngo 1\ngo 1\ngo 0")
        self.assertEqual([row[0] for row in house.robot_rows()], [(1, 2), (0, 1)])
        return house

    def test_a_robot_that_has_to_wait(self):
        house = self.blocked()
        self.check_refused(house, lambda: house.go(0), "robot has to wait")
        self.assertEqual(house.go(1), ("load", (0, 1)))

    def test_a_robot_that_cannot_come_there(self):
        house = self.blocked()
        house.fail(1)
        self.check_refused(house, lambda: house.go(0), "robot cannot come there")

    def test_replays(self):
        house = self.house()
        self.check_refused(house, lambda: house.replay("go 1"), "robot is broken", 1)
        self.check_refused(house, lambda: house.replay("go 0\ntow 1\nfail 1\nfail 1\ngo 9"), "robot is broken", 4)
        self.check_refused(house, lambda: house.replay("go 0\norder A Z"), "no such station", 2)
        self.check_refused(house, lambda: house.replay("tow 1\ngo 1"), "robot has nothing to do", 2)
        self.check_refused(house, lambda: house.replay("tow 1\ntow 1"), "robot is not broken", 2)
        self.check_refused(house, lambda: house.replay("go 0\ngo 0\ngo 12"), "no such robot", 3)

    def test_replays_of_texts_that_are_no_logs(self):
        house = self.house()
        for text, line in (("go 0\n", 2), ("x", 1), ("go 0\n\ngo 0", 2), ("go 9\ngo x", 2), ("undo", 1), ("log\ngo 0", 1)):
            before = (states(house), records(house), list(house.journal.device.data))
            with self.assertRaises(LineError) as caught:
                house.replay(text)
            self.assertEqual(caught.exception.line, line)
            self.assertEqual((states(house), records(house), list(house.journal.device.data)), before)

    def test_an_undo_without_earlier_states(self):
        house = kept()
        before = (states(house), list(house.journal.device.data), house.journal.device.written)
        self.assertIs(house.undo(), False)
        self.assertEqual((states(house), list(house.journal.device.data), house.journal.device.written), before)


class FactTest(HouseTest):
    def test_the_fleet_is_what_its_log_makes_of_a_new_one(self):
        for text in STAGES:
            house = kept(text, robots=3, patience=2)
            for seed in range(12):
                house.drive(seed=seed, most=1, count=5)
                if seed in (3, 4, 9):
                    house.undo()
                if seed == 6:
                    house.pack()
                self.check(house, list(house.events), text, 3, 2)
                self.assertEqual(read_log(house.log()), house.events)
                self.assertIsNone(facts_fail(house.fleet))

    def test_every_change_is_an_event_of_the_fleet(self):
        house = Warehouse(CROSS, robots=2)
        fleet = house.fleet
        for change, event in (
            (lambda: house.order("A", "B"), ("order", A, B)),
            (lambda: house.go(0), ("go", 0)),
            (lambda: house.fail(0), ("fail", 0)),
            (lambda: house.go(1), ("go", 1)),
            (lambda: house.tow(0), ("tow", 0)),
        ):
            change()
            fleet = happen(fleet, event)
            self.assertEqual(rows_of(house.fleet), rows_of(fleet))
