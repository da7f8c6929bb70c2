"""[45] to [47] and clearfloor/waiting.py in the interface."""

import unittest

import rules
from checks import cuts_off
from clearfloor.acts import act_of, first_robot, nearer_places
from clearfloor.waiting import hindrance, hindrances, robot_on, waits
from walks import made, rows_of, walks

# The cells of CROSS: 0 is A, 1 a door, 2 the middle, 3 is B and a door; the depot is 4.
CROSS = "#A#\n+.b"
# The cells 0 and 8 are doors, A is 2, B is 6; the depot is 9.
CORNERS = "+.A\n...\nB.+"
# The cells 0 (A) and 3 (B) are doors, C are 9 and 10; the depot is 12.
WIDE = "a..b\n....\n.CC."
A, B, C = 0, 1, 2


class RobotOnTest(unittest.TestCase):
    def test_cells(self):
        fleet = made(CROSS, [(4,), (1, False, [1]), (0, True)])
        self.assertEqual([robot_on(fleet, cell) for cell in range(4)], [2, 1, None, None])

    def test_the_depot(self):
        self.assertEqual(robot_on(made(CROSS, [(1, False, [1]), (4, True), (4,)]), 4), 1)
        self.assertEqual(robot_on(made(CROSS, [(4,), (4,)]), 4), 0)
        self.assertIsNone(robot_on(made(CROSS, [(1, False, [1])]), 4))
        self.assertIsNone(robot_on(made(CROSS, []), 4))


class HindranceTest(unittest.TestCase):
    def test_taken(self):
        fleet = made(CROSS, [(3, False, [3]), (2, False, [2, 1])], [(B, A, 0, True)])
        self.assertEqual(hindrance(fleet, 0, 2), ("taken", 1, None))
        fleet = made(CROSS, [(2, True), (3, False, [3])])
        self.assertEqual(hindrance(fleet, 1, 2), ("taken", 0, None))

    def test_trapped(self):
        fleet = made(CROSS, [(0, False, [0, 2, 1]), (3, False, [3])])
        self.assertEqual(hindrance(fleet, 1, 2), ("trapped", None, [2]))
        fleet = made("A.+.B", [(4, False, [4, 3, 2]), (5,)])
        self.assertEqual(hindrance(fleet, 1, 2), ("trapped", None, [2]))

    def test_the_cut_of_a_trap_is_the_nearest_one(self):
        # The cells 4, 5 and 6 would serve in place of 3, and the cells 1 and 0 in place of 2.
        fleet = made("+.AB..+", [(2, False, [2, 1, 0]), (3, False, [3, 4, 5, 6]), (7,)])
        self.assertEqual(hindrance(fleet, 2, 0), ("trapped", None, [0, 3]))
        self.assertEqual(hindrance(fleet, 2, 6), ("trapped", None, [2, 6]))

    def test_the_waiting_robot_does_not_count_where_it_stands(self):
        fleet = made("A.+B", [(2, False, [2]), (3, False, [3, 2])])
        self.assertEqual(hindrance(fleet, 0, 1), ("trapped", None, [2]))
        self.assertIsNone(hindrance(made("A.+B", [(2, False, [2]), (4,)]), 0, 1))

    def test_cells_of_broken_robots_are_closed_to_the_cut(self):
        fleet = made("+.+\n...", [(0, True), (3, False, [3, 4, 5, 2]), (1, False, [1, 2])])
        self.assertEqual(hindrance(fleet, 2, 2), ("trapped", None, [2]))

    def test_first(self):
        fleet = made(CROSS, [(3, False, [3]), (1, False, [1])], [(B, A, 0, True), (A, B, 1, False)])
        self.assertEqual(hindrance(fleet, 1, 2), ("first", None, None))
        fleet = made(WIDE, [(12,), (12,)], [(A, C, 0, False), (C, B, 1, False)])
        self.assertEqual(hindrance(fleet, 1, 0), ("first", None, None))

    def test_none(self):
        fleet = made(WIDE, [(12,), (12,)], [(A, C, 0, False), (C, B, 1, False)])
        self.assertIsNone(hindrance(fleet, 1, 3))
        self.assertIsNone(hindrance(made(CROSS, [(4,)]), 0, 1))

    def test_the_depot_is_never_taken_or_trapped(self):
        fleet = made(CROSS, [(4,), (3, False, [3]), (4, True)])
        self.assertIsNone(hindrance(fleet, 1, 4))

    def test_taken_comes_before_trapped_and_first(self):
        robots = [(3, False, [3]), (0, False, [0, 2, 1]), (1, True)]
        fleet = made(CROSS, robots, [(B, A, 0, True)])
        self.assertEqual(hindrance(fleet, 0, 2)[0], "trapped")
        fleet = made(CROSS, [(3, False, [3]), (2, False, [2, 1]), (4,)], [(B, A, 0, True)])
        self.assertEqual(hindrance(fleet, 2, 3), ("taken", 0, None))

    def test_trapped_comes_before_first(self):
        # Behind a step to 1 the first robot on 3 would have no act, but there is no such step.
        robots = [(3, False, [3]), (2, False, [2, 1]), (4,)]
        fleet = made(CROSS, robots, [(B, A, 0, True), (A, B, 2, False)])
        self.assertEqual(hindrance(fleet, 2, 1), ("trapped", None, [1, 3]))


class HindrancesTest(unittest.TestCase):
    def test_the_order_of_the_positions(self):
        robots = [(6, False, [6, 2, 1, 0]), (3, False, [3]), (12,)]
        orders = [(B, C, 0, True), (B, C, 1, False), (C, B, 2, False)]
        found = hindrances(made(WIDE, robots, orders), 2, 2)
        self.assertEqual(found, [(0, "trapped", None, [0, 3]), (3, "taken", 1, None)])
        robots = [(0, False, [0]), (6, False, [6, 3, 4, 5, 8]), (9,), (9,)]
        orders = [(A, B, 0, False), (B, A, 1, True), (A, B, 2, False)]
        found = hindrances(made(CORNERS, robots, orders), 2, 2)
        self.assertEqual(found, [(0, "taken", 0, None), (8, "trapped", None, [0, 8])])

    def test_positions_without_a_hindrance_are_left_out(self):
        fleet = made(WIDE, [(12,), (12,)], [(A, C, 0, False), (C, B, 1, False)])
        self.assertEqual(hindrances(fleet, 1, 1), [(0, "first", None, None)])
        self.assertEqual(hindrances(fleet, 0, 0), [])

    def test_only_nearer_positions(self):
        fleet = made(CROSS, [(2, False, [2, 3]), (1, False, [1]), (0, True)], [(A, B, 0, True)])
        self.assertEqual(hindrances(fleet, 0, 0), [])
        fleet = made(CROSS, [(2, False, [2, 1]), (3, False, [3]), (0, True)], [(A, B, 0, True)])
        self.assertEqual(hindrances(fleet, 0, 0), [(3, "taken", 1, None)])

    def test_the_aim_is_that_of_the_order(self):
        fleet = made(CORNERS, [(4, False, [4, 1, 0]), (5, True), (3, True)], [(A, B, 0, False)])
        self.assertEqual(hindrances(fleet, 0, 0), [])
        fleet = made(CORNERS, [(4, False, [4, 3, 0]), (1, False, [1, 0])], [(A, B, 0, False)])
        self.assertEqual(hindrances(fleet, 0, 0), [(1, "taken", 1, None)])
        fleet.orders[0].load()
        self.assertEqual(hindrances(fleet, 0, 0), [])


class WaitsTest(unittest.TestCase):
    def test_none_of_a_robot_with_an_act(self):
        self.assertIsNone(waits(made(CROSS, [(1, False, [1])]), 0))
        self.assertIsNone(waits(made(CROSS, [(4,)], [(A, B, 0, False)]), 0))
        self.assertIsNone(waits(made(CROSS, [(3, False, [3])], [(A, B, 0, True)]), 0))

    def test_broken(self):
        self.assertEqual(waits(made(CROSS, [(4, True)]), 0), ("broken", []))
        self.assertEqual(waits(made(CROSS, [(4,), (0, True)]), 1), ("broken", []))

    def test_idle(self):
        self.assertEqual(waits(made(CROSS, [(4,)]), 0), ("idle", []))
        fleet = made(CROSS, [(4,), (4,), (3, False, [3])], [(B, A, 0, False)])
        self.assertEqual(waits(fleet, 1), ("idle", []))

    def test_home(self):
        fleet = made(CROSS, [(4,), (2, False, [2, 3])], [(A, B, 0, True)])
        self.assertEqual(waits(fleet, 1), ("home", []))

    def test_far(self):
        fleet = made(CROSS, [(3, False, [3]), (0, True)], [(B, A, 0, True)])
        self.assertEqual(waits(fleet, 0), ("far", []))
        fleet = made("+..A..B", [(7,), (2, True)], [(A, B, 0, False)])
        self.assertEqual(waits(fleet, 0), ("far", []))

    def test_far_comes_before_behind(self):
        robots = [(4,), (4,), (3, False, [3]), (0, True)]
        fleet = made(CROSS, robots, [(B, A, 0, False), (A, B, 1, False)])
        self.assertEqual(waits(fleet, 1), ("far", []))

    def test_behind(self):
        robots = [(1, False, [1]), (0, False, [0, 2, 3]), (4,), (4,)]
        orders = [(A, B, 0, False), (B, A, 1, True), (A, B, 2, False)]
        self.assertEqual(waits(made(CROSS, robots, orders), 2), ("behind", []))
        fleet = made(CROSS, [(4,), (4,), (3, False, [3])], [(B, A, 0, False), (B, A, 1, False)])
        self.assertEqual(waits(fleet, 1), ("behind", []))

    def test_hindered_first_robot(self):
        fleet = made(CROSS, [(4,), (4,), (3, False, [3])], [(B, A, 0, False), (B, A, 1, False)])
        self.assertEqual(waits(fleet, 0), ("hindered", [(3, "taken", 2, None)]))
        fleet = made("A.+.B", [(4, False, [4, 3, 2]), (5,)], [(A, B, 1, False)])
        self.assertEqual(waits(fleet, 1), ("hindered", [(2, "trapped", None, [2])]))

    def test_hindered_others(self):
        fleet = made(CROSS, [(3, False, [3]), (1, False, [1])], [(B, A, 0, True), (A, B, 1, False)])
        self.assertEqual(waits(fleet, 1), ("hindered", [(2, "first", None, None)]))
        robots = [(6, False, [6, 2, 1, 0]), (3, False, [3]), (12,)]
        orders = [(B, C, 0, True), (B, C, 1, False), (C, B, 2, False)]
        wanted = ("hindered", [(0, "trapped", None, [0, 3]), (3, "taken", 1, None)])
        self.assertEqual(waits(made(WIDE, robots, orders), 2), wanted)


class WalksTest(unittest.TestCase):
    def test_all_that_waits_by_the_words(self):
        found = set()
        for _, _, fleet in walks(seeds=9):
            for robot in range(len(fleet.robots)):
                self.check_waits(fleet, robot, found)
        words = {"broken", "idle", "home", "far", "behind", "hindered", "taken", "trapped", "first"}
        self.assertEqual(found, words)

    def check_waits(self, fleet, robot, found):
        before = rows_of(fleet)
        told = waits(fleet, robot)
        self.assertEqual(rows_of(fleet), before)
        self.assertEqual(told is None, act_of(fleet, robot) is not None)
        if told is not None:
            why, rows = told
            self.assertEqual(why, rules.why(fleet, robot), (before, robot))
            found.update([why] + [row[1] for row in rows])
            if why == "hindered":
                self.check_hindered(fleet, robot, rows)
            else:
                self.assertEqual(rows, [])

    def check_hindered(self, fleet, robot, rows):
        near = rules.nearer_of(fleet, robot)
        self.assertEqual(rows, [(place, *rules.hindered(fleet, robot, place)) for place in near])
        self.assertEqual(rows, hindrances(fleet, fleet.order_of(robot), robot))
        self.assertNotIn(fleet.floor.depot, near)
        self.assertTrue(rows)
        for position, why, _, cut in rows:
            if why == "trapped":
                self.check_cut(fleet, robot, position, cut)
        if robot == first_robot(fleet):
            self.assertNotIn("first", [row[1] for row in rows])

    def check_cut(self, fleet, robot, cell, cut):
        others = [number for number in fleet.running() if number != robot]
        cells = [fleet.robots[number].place for number in others] + [cell]
        self.assertLess(len(cut), len(cells))
        self.assertTrue(cuts_off(fleet.floor, fleet.closed(), cells, fleet.floor.doors, cut))
        self.assertEqual(cut, sorted(cut))

    def test_hindrances_of_robots_with_an_act_too(self):
        for _, _, fleet in walks(seeds=2):
            for number, order in enumerate(fleet.orders):
                if not order.done and order.robot is not None:
                    self.check_hindrances(fleet, number, order.robot)

    def check_hindrances(self, fleet, number, robot):
        wanted = []
        for position in nearer_places(fleet, fleet.aim(number), robot):
            told = rules.hindered(fleet, robot, position)
            self.assertEqual(hindrance(fleet, robot, position), told)
            if told is not None:
                wanted.append((position, *told))
        self.assertEqual(hindrances(fleet, number, robot), wanted)

    def test_all_hindrances_of_positions_around(self):
        for _, _, fleet in walks(seeds=1):
            for robot, mover in enumerate(fleet.robots):
                for position in fleet.floor.around(mover.place):
                    if not mover.broken:
                        told = hindrance(fleet, robot, position)
                        self.assertEqual(told, rules.hindered(fleet, robot, position))


class ListsTest(unittest.TestCase):
    def test_lists_that_are_returned_are_new(self):
        robots = [(6, False, [6, 2, 1, 0]), (3, False, [3]), (12,)]
        orders = [(B, C, 0, True), (B, C, 1, False), (C, B, 2, False)]
        fleet = made(WIDE, robots, orders)
        before = rows_of(fleet)
        for _ in range(2):
            why, rows = waits(fleet, 2)
            self.assertEqual(rows, [(0, "trapped", None, [0, 3]), (3, "taken", 1, None)])
            rows[0][3].append(99)
            rows.append(99)
            listed = hindrances(fleet, 2, 2)
            self.assertEqual(len(listed), 2)
            listed.clear()
            idle = waits(made(CROSS, [(4,)]), 0)
            self.assertEqual(idle, ("idle", []))
            idle[1].append(9)
            self.assertEqual(rows_of(fleet), before)
        self.assertEqual(fleet.floor.doors, [0, 3])
