"""The questions of clearfloor/house.py in the interface, with [42] and [43] for bound and effort."""

import copy
import unittest

import rules
from clearfloor.distances import distance
from clearfloor.errors import RefusedError
from clearfloor.house import Warehouse
from clearfloor.log import write_event, write_log
from clearfloor.waiting import waits
from houses import CROSS, answers, kept, shut, state, states
from walks import STAGES, walk

WORDS = "order B A\ngo 0\norder A B\ngo 1\ngo 1\ngo 1\ngo 0"


def blocked(text=WORDS):
    """The robot 0 has its load on B and has to come to A, where the robot 1 stands."""
    house = kept()
    house.replay(text)
    return house


def driven():
    """Warehouses behind runs."""
    for text in STAGES:
        for robots, seed in ((1, 0), (2, 30), (4, 60)):
            house = Warehouse(text, robots=robots, patience=3)
            for step in range(10):
                house.drive(seed=seed + step, most=1, count=4)
                yield house


def walked():
    """Warehouses behind each event of some rows."""
    for text in STAGES:
        for robots in (2, 3, 4):
            house = None
            for fleet, event, _ in walk(text, robots, 7 * robots, 80):
                if house is None:
                    house = Warehouse(text, robots=robots, patience=fleet.patience)
                house.replay(write_event(event))
                yield house


class RowsTest(unittest.TestCase):
    def test_by_hand(self):
        house = blocked()
        rows = [((1, 2), False, 0, True, [(1, 2)]), ((0, 1), False, 1, False, [(0, 1), (1, 1), (1, 0)])]
        self.assertEqual(house.robot_rows(), rows)
        self.assertEqual(house.order_rows(), [("B", "A", False, 0, True), ("A", "B", False, 1, False)])
        house.fail(0)
        self.assertEqual(house.robot_rows(), [((1, 2), True, None, False, []), rows[1]])
        self.assertEqual(house.order_rows(), [("B", "A", False, None, False), ("A", "B", False, 1, False)])
        house.fail(1)
        house.tow(0)
        # The way to B is open, the way to A is not.
        self.assertEqual(house.robot_rows(), [(None, False, 0, False, []), ((0, 1), True, None, False, [])])
        self.assertEqual(house.order_rows(), [("B", "A", False, 0, False), ("A", "B", False, None, False)])
        house.tow(1)
        self.assertEqual(house.robot_rows()[1], (None, False, 1, False, []))

    def test_a_new_warehouse(self):
        house = Warehouse(CROSS, robots=2)
        self.assertEqual(house.robot_rows(), [(None, False, None, False, [])] * 2)
        self.assertEqual(house.order_rows(), [])

    def test_an_order_that_is_done(self):
        house = kept()
        house.replay("order A B" + "\ngo 0" * 7)
        self.assertEqual(house.order_rows(), [("A", "B", True, None, False)])
        self.assertEqual(house.robot_rows()[0], ((1, 2), False, None, False, [(1, 2)]))

    def test_letters(self):
        house = Warehouse("ABCD\n++++\nHGFE", robots=2)
        for start, goal in ("AH", "HA", "BG", "FC", "DE"):
            house.order(start, goal)
        self.assertEqual(["".join(row[:2]) for row in house.order_rows()], ["AH", "HA", "BG", "FC", "DE"])

    def test_over_runs(self):
        for house in driven():
            fleet, places = house.fleet, house.floor.places + [None]
            for robot, row in enumerate(house.robot_rows()):
                own = fleet.robots[robot]
                order = rules.serves(fleet, robot)
                number = fleet.orders.index(order) if order else None
                wanted = (places[own.place], own.broken, number, bool(order and order.loaded))
                self.assertEqual(row, wanted + ([places[cell] for cell in own.way],))
                self.assertIsInstance(row[3], bool)
            for order, row in zip(fleet.orders, house.order_rows()):
                letters = ("ABC"[order.start], "ABC"[order.goal])
                self.assertEqual(row, letters + (order.done, order.robot, order.loaded))
            self.assertEqual(len(house.robot_rows()), len(fleet.robots))
            self.assertEqual(len(house.order_rows()), len(fleet.orders))


class ActTest(unittest.TestCase):
    def test_by_hand(self):
        house = blocked()
        self.assertEqual(house.ready(), [1])
        self.assertEqual(house.first(), 0)
        self.assertIsNone(house.act(0))
        self.assertEqual(house.act(1), ("load", (0, 1)))
        house.go(1)
        self.assertEqual(house.act(1), ("home", (1, 1)))
        house.go(1)
        house.go(1)
        self.assertEqual(house.ready(), [0, 1])
        self.assertEqual(house.act(1), ("home", None) if house.act(0) is None else house.act(1))
        self.assertEqual(house.act(0), ("on", (1, 1)))

    def test_no_first_robot_and_no_act(self):
        house = kept()
        self.assertEqual((house.ready(), house.first()), ([], None))
        self.assertIsNone(house.act(0))

    def test_no_such_robot(self):
        house = blocked()
        for robot in (-1, -2, 2, 99):
            self.assertIsNone(house.act(robot))

    def test_act_is_what_go_returns(self):
        names = {}
        for house in driven():
            ready = []
            for robot in range(len(house.fleet.robots)):
                found = house.act(robot)
                twin = copy.deepcopy(house)
                if found is None:
                    self.assertRaises(RefusedError, twin.go, robot)
                else:
                    ready.append(robot)
                    self.assertEqual(twin.go(robot), found)
                    self.assertEqual(twin.robot_rows()[robot][0], found[1])
                    names[found[0]] = names.get(found[0], 0) + 1
            self.assertEqual(house.ready(), ready)
            self.assertEqual(house.first(), rules.first(house.fleet))
        self.assertEqual(sorted(names), ["home", "load", "on", "unload"])


class WaitsTest(unittest.TestCase):
    def test_by_hand(self):
        house = blocked()
        self.assertEqual(house.waits(0), ("hindered", [((1, 1), "trapped", None, [(1, 1)])]))
        self.assertIsNone(house.waits(1))
        house.fail(1)
        self.assertEqual(house.waits(0), ("far", []))
        self.assertEqual(house.waits(1), ("broken", []))
        self.assertEqual(kept().waits(0), ("idle", []))

    def test_taken(self):
        house = kept("AB+", robots=2)
        house.replay("order A B\ngo 0\norder B A")
        self.assertEqual(house.robot_rows()[0][0], (0, 2))
        self.assertEqual(house.waits(1), ("hindered", [((0, 2), "taken", 0, None)]))

    def test_first_and_behind(self):
        house = kept()
        house.replay("order B A\norder B A")
        # On B, the robot 1 would be in the way of the robot 0.
        self.assertEqual(house.waits(1), ("hindered", [((1, 2), "first", None, None)]))
        house = kept(robots=3)
        house.replay("order A B\norder A B\ngo 1\norder B A\ngo 1\ngo 0")
        self.assertEqual(house.waits(2), ("behind", []))
        self.assertEqual(house.first(), 0)
        self.assertIsNone(house.act(0))

    def test_over_rows_of_events(self):
        met = {}
        for house in walked():
            floor = house.floor
            for robot in range(len(house.fleet.robots)):
                found, wanted = house.waits(robot), waits(house.fleet, robot)
                if wanted is None:
                    self.assertIsNone(found)
                    self.assertIsNotNone(house.act(robot))
                    continue
                why, rows = wanted
                places = []
                for position, reason, other, cut in rows:
                    cells = None if cut is None else [floor.place(cell) for cell in cut]
                    places.append((floor.place(position), reason, other, cells))
                    met[reason] = met.get(reason, 0) + 1
                self.assertEqual(found, (why, places))
                self.assertIsInstance(found, tuple)
                met[why] = met.get(why, 0) + 1
        self.assertEqual(sorted(met), ["broken", "far", "hindered", "home", "idle", "taken", "trapped"], met)


class NumbersTest(unittest.TestCase):
    def test_distance_by_hand(self):
        house = blocked()
        found = [[house.distance(robot, letter) for letter in "AB"] for robot in (0, 1)]
        self.assertEqual(found, [[2, 0], [0, 2]])
        house.fail(1)
        # A is below the broken robot 1, and this robot stands on a closed cell.
        self.assertEqual([house.distance(0, letter) for letter in "AB"], [None, 0])
        self.assertEqual([house.distance(1, letter) for letter in "AB"], [None, None])
        house.tow(1)
        self.assertEqual([house.distance(1, letter) for letter in "AB"], [3, 1])
        self.assertIsNone(house.distance(0, "C"))

    def test_distance_over_runs(self):
        for house in driven():
            fleet, floor = house.fleet, house.floor
            for robot, own in enumerate(fleet.robots):
                for station, cells in enumerate(floor.stations):
                    wanted = distance(floor, rules.closed_of(fleet), cells, own.place)
                    self.assertEqual(house.distance(robot, "ABC"[station]), wanted)

    def test_log(self):
        house = blocked()
        self.assertEqual(house.log(), WORDS)
        self.assertEqual(kept().log(), "")
        house.undo()
        self.assertEqual(house.log(), "")

    def test_bound_and_effort(self):
        self.assertEqual(kept().bound(), 3 * 5 * 5 * 15)
        self.assertEqual(kept(robots=12).bound(), 13 * 5 * 5 * 15)
        self.assertEqual(Warehouse("+", robots=1).bound(), 2 * 2 * 2 * 9)
        house = kept(robots=1)
        self.assertEqual(house.effort(), 325)
        house.order("A", "B")
        self.assertEqual(house.effort(), 25 * 9 + 5 * 9)
        for house in driven():
            n, robots = house.floor.size, len(house.fleet.robots)
            self.assertEqual(house.bound(), (robots + 1) * (n + 1) * (n + 1) * (2 * n + 7))
            self.assertEqual(house.effort(), rules.effort(house.fleet))
            self.assertTrue(0 <= house.effort() <= house.bound())


class StaysTest(unittest.TestCase):
    def change_all(self, house):
        """Ask for all lists, and change them."""
        for row in house.robot_rows():
            row[4].append(9)
        house.robot_rows().clear()
        house.order_rows().append(9)
        house.ready().append(9)
        for robot in range(len(house.fleet.robots)):
            found = house.waits(robot)
            if found is not None:
                for row in found[1]:
                    if row[3] is not None:
                        row[3].append(9)
                found[1].append(9)

    def test_asking_changes_nothing(self):
        houses = [blocked()] + [copy.deepcopy(house) for house in driven()]
        for house in houses:
            before = (state(house), answers(house), states(house))
            data = list(house.journal.device.data) if house.journal else None
            for _ in range(2):
                self.change_all(house)
                self.assertEqual((state(house), answers(house), states(house)), before)
            if data:
                self.assertEqual(house.journal.device.data, data)

    def test_asking_needs_no_power(self):
        house = blocked()
        before = answers(house)
        house.journal.device.recharge(0)
        self.assertEqual(answers(house), before)

    def test_a_warehouse_that_is_shut_answers(self):
        house = blocked()
        before = answers(house)
        shut(house)
        self.assertEqual(answers(house), before)
        self.assertEqual(house.act(1), ("load", (0, 1)))
        self.assertEqual(house.log(), WORDS)
        self.assertEqual(write_log(house.events), WORDS)
