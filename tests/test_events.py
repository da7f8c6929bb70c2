"""[37] to [39] and clearfloor/events.py in the interface."""

import unittest

import rules
from clearfloor.assign import next_order
from clearfloor.errors import ClearfloorError, RefusedError
from clearfloor.events import broken_down, happen, run, why_no_order, why_not
from clearfloor.fleet import Fleet
from clearfloor.maps import read_floor
from walks import STAGES, facts_fail, made, rows_of, walks

# The cells of CROSS: 0 is A, 1 a door, 2 the middle, 3 is B and a door; the depot is 4.
CROSS = "#A#\n+.b"
A, B = 0, 1


def new_fleet(text=CROSS, robots=2, patience=4):
    return Fleet(read_floor(text), robots=robots, patience=patience)


def order_rows(fleet):
    return rows_of(fleet)[1]


def robot_rows(fleet):
    return rows_of(fleet)[0]


class RefusedTest(unittest.TestCase):
    def check_refused(self, fleet, event, reason):
        before = rows_of(fleet)
        self.assertEqual(why_not(fleet, event), reason)
        with self.assertRaises(RefusedError) as caught:
            happen(fleet, event)
        self.assertEqual((caught.exception.reason, caught.exception.line), (reason, 0))
        self.assertIsInstance(caught.exception, ClearfloorError)
        self.assertEqual(rows_of(fleet), before)

    def test_an_order_without_such_a_station(self):
        fleet = new_fleet()
        for start, goal in ((-1, 0), (0, -1), (2, 0), (0, 2), (2, 3), (-1, -1), (2, 2), (25, 1)):
            self.check_refused(fleet, ("order", start, goal), "no such station")
            self.assertEqual(why_no_order(fleet, start, goal), "no such station")

    def test_an_order_between_the_same_station(self):
        fleet = new_fleet()
        for station in (0, 1):
            self.check_refused(fleet, ("order", station, station), "same station")
            self.assertEqual(why_no_order(fleet, station, station), "same station")

    def test_a_floor_without_stations(self):
        self.check_refused(new_fleet("+."), ("order", 0, 0), "no such station")
        self.check_refused(new_fleet("A+"), ("order", 0, 1), "no such station")
        self.check_refused(new_fleet("A+"), ("order", 0, 0), "same station")

    def test_no_such_robot(self):
        fleet = made(CROSS, [(4,), (4, True)])
        for word in ("go", "fail", "tow"):
            for robot in (-1, -2, 2, 3, 999999):
                self.check_refused(fleet, (word, robot), "no such robot")

    def test_go_of_a_broken_robot(self):
        self.check_refused(made(CROSS, [(4, True)]), ("go", 0), "robot is broken")
        self.check_refused(made(CROSS, [(4,), (0, True)]), ("go", 1), "robot is broken")

    def test_go_of_a_robot_that_has_nothing_to_do(self):
        self.check_refused(new_fleet(), ("go", 0), "robot has nothing to do")
        fleet = made(CROSS, [(4,), (4,), (3, False, [3])], [(B, A, 0, False)])
        self.check_refused(fleet, ("go", 1), "robot has nothing to do")

    def test_go_of_a_robot_that_cannot_come_there(self):
        self.check_refused(made(CROSS, [(3, False, [3]), (0, True)], [(B, A, 0, True)]), ("go", 0),
                           "robot cannot come there")
        robots = [(4,), (4,), (3, False, [3]), (0, True)]
        self.check_refused(made(CROSS, robots, [(B, A, 0, False), (A, B, 1, False)]), ("go", 1),
                           "robot cannot come there")

    def test_go_of_a_robot_that_has_to_wait(self):
        reason = "robot has to wait"
        self.check_refused(made(CROSS, [(4,), (2, False, [2, 3])], [(A, B, 0, True)]), ("go", 1), reason)
        fleet = made(CROSS, [(4,), (4,), (3, False, [3])], [(B, A, 0, False), (B, A, 1, False)])
        self.check_refused(fleet, ("go", 0), reason)
        self.check_refused(fleet, ("go", 1), reason)
        fleet = made(CROSS, [(3, False, [3]), (1, False, [1])], [(B, A, 0, True), (A, B, 1, False)])
        self.check_refused(fleet, ("go", 1), reason)

    def test_fail_of_a_broken_robot(self):
        self.check_refused(made(CROSS, [(4, True)]), ("fail", 0), "robot is broken")
        self.check_refused(made(CROSS, [(4,), (0, True)]), ("fail", 1), "robot is broken")

    def test_tow_of_a_robot_that_runs(self):
        self.check_refused(new_fleet(), ("tow", 0), "robot is not broken")
        self.check_refused(made(CROSS, [(4, True), (0, False, [0, 2, 1])]), ("tow", 1), "robot is not broken")


class OrderTest(unittest.TestCase):
    def test_why_not_is_none(self):
        fleet = new_fleet()
        self.assertIsNone(why_no_order(fleet, 0, 1))
        self.assertIsNone(why_no_order(fleet, 1, 0))
        self.assertIsNone(why_not(fleet, ("order", 0, 1)))

    def test_it_is_appended_and_given_a_robot(self):
        fleet = happen(new_fleet(), ("order", A, B))
        self.assertEqual(order_rows(fleet), [(A, B, False, 0, False)])
        fleet = happen(fleet, ("order", B, A))
        self.assertEqual(order_rows(fleet), [(A, B, False, 0, False), (B, A, False, 1, False)])
        fleet = happen(fleet, ("order", A, B))
        self.assertEqual(order_rows(fleet)[2], (A, B, False, None, False))
        self.assertEqual(robot_rows(fleet), [(4, False, []), (4, False, [])])

    def test_beyond_the_patience_it_waits(self):
        fleet = run(new_fleet(patience=1), [("order", A, B), ("order", A, B)])
        self.assertEqual(order_rows(fleet), [(A, B, False, 0, False), (A, B, False, None, False)])

    def test_the_nearest_robot_gets_it(self):
        fleet = made(CROSS, [(4,), (2, False, [2, 1])])
        self.assertEqual(order_rows(happen(fleet, ("order", A, B))), [(A, B, False, 1, False)])


class GoTest(unittest.TestCase):
    def test_the_act_of_the_robot(self):
        fleet = run(new_fleet(robots=1), [("order", A, B)] + [("go", 0)] * 3)
        self.assertEqual(robot_rows(fleet), [(0, False, [0, 2, 1])])
        fleet = run(fleet, [("go", 0)] * 3)
        self.assertEqual((robot_rows(fleet), order_rows(fleet)), ([(3, False, [3])], [(A, B, False, 0, True)]))
        fleet = happen(fleet, ("go", 0))
        self.assertEqual((robot_rows(fleet), order_rows(fleet)), ([(3, False, [3])], [(A, B, True, None, False)]))
        fleet = happen(fleet, ("go", 0))
        self.assertEqual(robot_rows(fleet), [(4, False, [])])

    def test_orders_are_given_robots_behind_it(self):
        fleet = made(CROSS, [(3, False, [3])], [(A, B, 0, True), (B, A, None, False)])
        fleet = happen(fleet, ("go", 0))
        self.assertEqual(order_rows(fleet), [(A, B, True, None, False), (B, A, False, 0, False)])

    def test_the_patience_counts_anew_behind_it(self):
        robots = [(3, False, [3]), (4,)]
        fleet = made(CROSS, robots, [(A, B, 0, True), (B, A, None, False)], patience=1)
        fleet = happen(fleet, ("go", 0))
        self.assertEqual(order_rows(fleet), [(A, B, True, None, False), (B, A, False, 0, False)])


class FailTest(unittest.TestCase):
    def test_with_an_order(self):
        fleet = happen(made(CROSS, [(1, False, [1])], [(A, B, 0, False)]), ("fail", 0))
        self.assertEqual(rows_of(fleet), ([(1, True, [])], [(A, B, False, None, False)], 4))

    def test_with_a_load(self):
        fleet = happen(made(CROSS, [(2, False, [2, 1])], [(A, B, 0, True)]), ("fail", 0))
        self.assertEqual(rows_of(fleet), ([(2, True, [])], [(A, B, False, None, False)], 4))

    def test_in_the_depot(self):
        fleet = happen(new_fleet(), ("fail", 1))
        self.assertEqual(robot_rows(fleet), [(4, False, []), (4, True, [])])
        fleet = happen(made(CROSS, [(4,), (3, True)], [(A, B, 0, True)]), ("fail", 0))
        self.assertEqual(rows_of(fleet), ([(4, True, []), (3, True, [])], [(A, B, False, None, False)], 4))

    def test_on_its_way(self):
        fleet = made(CROSS, [(0, False, [0, 2, 1]), (3, False, [3])])
        self.assertEqual(robot_rows(happen(fleet, ("fail", 0))), [(0, True, []), (3, False, [3])])
        self.assertEqual(robot_rows(happen(fleet, ("fail", 1))), [(0, False, [0, 2, 1]), (3, True, [])])

    def test_the_order_gets_another_robot(self):
        fleet = made(CROSS, [(1, False, [1]), (4,)], [(B, A, 0, True)])
        fleet = happen(fleet, ("fail", 0))
        self.assertEqual(order_rows(fleet), [(B, A, False, 1, False)])

    def test_other_orders_keep_their_robots(self):
        fleet = made(CROSS, [(1, False, [1]), (3, False, [3])], [(B, A, 0, True), (B, A, 1, True)])
        fleet = happen(fleet, ("fail", 0))
        self.assertEqual(order_rows(fleet), [(B, A, False, None, False), (B, A, False, 1, True)])

    def test_orders_that_are_done_stay_done(self):
        fleet = made(CROSS, [(3, False, [3])], [(A, B, None, False), (B, A, None, False)])
        fleet.orders[0].finish()
        fleet.orders[1].give(0)
        fleet = happen(fleet, ("fail", 0))
        self.assertEqual(order_rows(fleet), [(A, B, True, None, False), (B, A, False, None, False)])


class BrokenDownTest(unittest.TestCase):
    def test_before_orders_are_given_robots(self):
        fleet = made(CROSS, [(1, False, [1]), (4,)], [(B, A, 0, True)])
        behind = broken_down(fleet, 0)
        self.assertEqual(rows_of(behind), ([(1, True, []), (4, False, [])], [(B, A, False, None, False)], 4))

    def test_without_an_order(self):
        behind = broken_down(made(CROSS, [(4,), (0, False, [0, 2, 1])], [(B, A, 0, False)]), 1)
        self.assertEqual(rows_of(behind), ([(4, False, []), (0, True, [])], [(B, A, False, 0, False)], 4))

    def test_the_fleet_stays(self):
        fleet = made(CROSS, [(1, False, [1]), (4,)], [(B, A, 0, True)])
        before = rows_of(fleet)
        behind = broken_down(fleet, 0)
        behind.orders[0].finish()
        behind.robots[0].way.append(9)
        self.assertEqual(rows_of(fleet), before)


class TowTest(unittest.TestCase):
    def test_from_a_cell(self):
        fleet = happen(made(CROSS, [(0, True), (3, False, [3])]), ("tow", 0))
        self.assertEqual(robot_rows(fleet), [(4, False, []), (3, False, [3])])

    def test_from_the_depot(self):
        fleet = happen(made(CROSS, [(0, True), (4, True)]), ("tow", 1))
        self.assertEqual(robot_rows(fleet), [(0, True, []), (4, False, [])])

    def test_orders_are_given_robots_behind_it(self):
        fleet = happen(made(CROSS, [(4, True)], [(A, B, None, False)]), ("tow", 0))
        self.assertEqual(order_rows(fleet), [(A, B, False, 0, False)])
        # The broken robot stood on the way to the start, and another robot waits for the order.
        fleet = happen(made(CROSS, [(2, True), (1, False, [1])], [(A, B, None, False)]), ("tow", 0))
        self.assertEqual(order_rows(fleet), [(A, B, False, 1, False)])


class RunTest(unittest.TestCase):
    def test_a_list_of_events(self):
        events = [("order", A, B), ("go", 0), ("fail", 0), ("tow", 0)]
        wanted = new_fleet()
        for event in events:
            wanted = happen(wanted, event)
        self.assertEqual(rows_of(run(new_fleet(), events)), rows_of(wanted))

    def test_no_events(self):
        fleet = new_fleet()
        behind = run(fleet, [])
        self.assertEqual(rows_of(behind), rows_of(fleet))
        behind.robots[0].way.append(1)
        behind.robots.clear()
        self.assertEqual(rows_of(fleet), rows_of(new_fleet()))

    def check_refused(self, events, reason, line):
        fleet = new_fleet()
        with self.assertRaises(RefusedError) as caught:
            run(fleet, events)
        self.assertEqual((caught.exception.reason, caught.exception.line), (reason, line))
        self.assertEqual(rows_of(fleet), rows_of(new_fleet()))

    def test_the_place_of_the_first_event_that_cannot_happen(self):
        self.check_refused([("go", 0)], "robot has nothing to do", 1)
        self.check_refused([("order", A, B), ("go", 0), ("order", A, A), ("go", 9)], "same station", 3)
        self.check_refused([("fail", 0), ("fail", 0)], "robot is broken", 2)
        self.check_refused([("fail", 0), ("tow", 0), ("fail", 0), ("go", 2)], "no such robot", 4)
        self.check_refused([("tow", 1)], "robot is not broken", 1)
        self.check_refused([("fail", 1), ("order", 0, 2)], "no such station", 2)


class FactsTest(unittest.TestCase):
    def test_behind_rows_of_events(self):
        words = set()
        for fleet, event, behind in walks(seeds=6):
            words.add(event[0])
            self.assertIsNone(facts_fail(behind), (rows_of(fleet), event))
            self.assertIsNone(next_order(behind), (rows_of(fleet), event))
        self.assertEqual(words, {"order", "go", "fail", "tow"})

    def test_where_a_lot_breaks_down(self):
        for text in STAGES:
            fleet = new_fleet(text, 4)
            for robot in (0, 1, 0, 2, 3, 0, 1, 2, 3, 1, 0, 2) * 6:
                events = [("order", robot % 2, 1 - robot % 2), ("go", robot), ("go", (robot + 1) % 4)]
                events += [("fail", robot), ("tow", (robot + 2) % 4), ("tow", robot)]
                for event in events:
                    if why_not(fleet, event) is None:
                        fleet = happen(fleet, event)
                        self.assertIsNone(facts_fail(fleet))
                        self.assertIsNone(next_order(fleet))

    def test_each_event_by_its_words(self):
        for fleet, event, behind in walks(seeds=2):
            twin = fleet.twin()
            if event[0] == "go":
                self.assertEqual(robot_rows(behind), robot_rows(rules.act(fleet, event[1])[1]))
            elif event[0] != "order":
                twin.robots[event[1]].way = []
                twin.robots[event[1]].broken = event[0] == "fail"
                if event[0] == "tow":
                    twin.robots[event[1]].place = fleet.floor.depot
                self.assertEqual(robot_rows(behind), robot_rows(twin))
            self.assertEqual(behind.patience, fleet.patience)


class FleetsStayTest(unittest.TestCase):
    def test_the_fleet_that_was_handed_in_stays(self):
        fleet = made(CROSS, [(4,), (1, False, [1]), (4, True)], [(A, B, 0, False), (A, B, None, False)], patience=1)
        before = rows_of(fleet)
        events = [("order", A, B), ("go", 1), ("fail", 0), ("fail", 1), ("tow", 2)]
        for event in events:
            behind = happen(fleet, event)
            why_not(fleet, event)
            self.assertEqual(rows_of(fleet), before)
            self.assertIs(behind.floor, fleet.floor)
            for robot in behind.robots:
                robot.place = 77
                robot.way.append(7)
            for order in behind.orders:
                order.finish()
            behind.robots.clear()
            behind.orders.clear()
            self.assertEqual(rows_of(fleet), before)
        run(fleet, events)
        self.assertEqual((rows_of(fleet), events[1], len(events)), (before, ("go", 1), 5))
