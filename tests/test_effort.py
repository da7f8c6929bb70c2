"""[43], what [42] says of the bound, and clearfloor/effort.py in the interface."""

import unittest

import rules
from clearfloor.acts import act_of, first_goes, first_robot
from clearfloor.analysis import keeps_promise, most_acts
from clearfloor.effort import delay, effort, share_of, steps_home, work_of
from walks import made, rows_of, walks

# The cells of CROSS: 0 is A, 1 a door, 2 the middle, 3 is B and a door; the depot is 4.
# So n + 1 is 5, (n + 1) * (n + 1) is 25, n + 2 is 6, and 25 * (2 * n + 5) is 325.
CROSS = "#A#\n+.b"
A, B = 0, 1


class StepsHomeTest(unittest.TestCase):
    def test_the_cells_of_the_way(self):
        fleet = made(CROSS, [(0, False, [0, 2, 1]), (3, False, [3]), (4,), (4, True)])
        self.assertEqual([steps_home(fleet, robot) for robot in range(4)], [3, 1, 0, 0])
        self.assertEqual(steps_home(made(CROSS, [(0, True)]), 0), 0)


class WorkTest(unittest.TestCase):
    def test_a_robot_without_an_order(self):
        fleet = made(CROSS, [(4,), (0, False, [0, 2, 1]), (3, True)], [(A, B, None, False)])
        self.assertEqual([work_of(fleet, robot) for robot in range(3)], [0, 0, 0])

    def test_an_order_that_is_not_loaded(self):
        fleet = made(CROSS, [(4,), (0, False, [0, 2, 1])], [(A, B, 0, False), (A, B, 1, False)])
        self.assertEqual([work_of(fleet, robot) for robot in range(2)], [3 + 6, 0 + 6])

    def test_an_order_that_is_loaded(self):
        fleet = made(CROSS, [(0, False, [0, 2, 1]), (3, False, [3])], [(A, B, 0, True), (A, B, 1, True)])
        self.assertEqual([work_of(fleet, robot) for robot in range(2)], [2 + 1, 0 + 1])

    def test_without_a_distance(self):
        fleet = made(CROSS, [(4,), (0, True), (1, False, [1])], [(A, B, 0, False), (B, A, 2, True)])
        self.assertEqual([work_of(fleet, robot) for robot in (0, 2)], [6, 1])


class ShareTest(unittest.TestCase):
    def test_of_a_robot_that_serves_an_order(self):
        fleet = made(CROSS, [(4,), (0, False, [0, 2, 1])], [(A, B, 0, False), (A, B, 1, True)])
        self.assertEqual([share_of(fleet, robot) for robot in range(2)], [5 * 9, 5 * 3])

    def test_of_a_robot_without_an_order(self):
        fleet = made(CROSS, [(4,), (0, False, [0, 2, 1]), (3, False, [3])], [(A, B, None, False)])
        self.assertEqual([share_of(fleet, robot) for robot in range(3)], [325, 328, 326])

    def test_of_a_broken_robot(self):
        fleet = made(CROSS, [(4, True), (0, True)])
        self.assertEqual([share_of(fleet, robot) for robot in range(2)], [0, 0])

    def test_the_first_robot_adds_no_more_than_others_here(self):
        fleet = made(CROSS, [(4,), (4,)], [(A, B, 1, False), (A, B, 0, False)])
        self.assertEqual([share_of(fleet, robot) for robot in range(2)], [45, 45])


class DelayTest(unittest.TestCase):
    def test_no_first_robot_or_one_with_an_act(self):
        self.assertEqual(delay(made(CROSS, [(0, False, [0, 2, 1])])), 0)
        self.assertEqual(delay(made(CROSS, [(0, False, [0, 2, 1]), (4,)], [(B, A, 1, False)])), 0)
        fleet = made(CROSS, [(4,), (0, True), (3, False, [3])], [(A, B, 0, False)])
        self.assertEqual(delay(fleet), 0)

    def test_a_first_robot_without_an_act(self):
        fleet = made(CROSS, [(4,), (3, False, [3]), (2, False, [2, 1])], [(B, A, 0, False)])
        self.assertEqual(delay(fleet), 1 + 6 * 3)
        fleet = made(CROSS, [(4,), (3, False, [3])], [(B, A, 0, False), (B, A, 1, True)])
        self.assertEqual(delay(fleet), 1 + 6 * 1)

    def test_the_steps_of_the_first_robot_do_not_count(self):
        fleet = made(CROSS, [(2, False, [2, 1]), (3, False, [3])], [(A, B, 0, True)])
        self.assertEqual(delay(fleet), 1 + 6 * 1)
        fleet = made(CROSS, [(0, False, [0, 2, 1]), (3, False, [3])], [(B, A, 1, True)])
        self.assertEqual(delay(fleet), 1 + 6 * 3)

    def test_a_first_robot_in_the_depot(self):
        # The only door is on the way of the robot 0.
        fleet = made("A.+", [(0, False, [0, 1, 2]), (3,)], [(A, B, 1, False)])
        self.assertEqual(delay(fleet), 1 + 5 * 3)


class EffortTest(unittest.TestCase):
    def test_no_robots_and_broken_robots(self):
        self.assertEqual(effort(made(CROSS, [])), 0)
        self.assertEqual(effort(made(CROSS, [(4, True), (2, True)], [(A, B, None, False)])), 0)

    def test_robots_without_orders(self):
        self.assertEqual(effort(made(CROSS, [(4,)])), 325)
        self.assertEqual(effort(made(CROSS, [(4,), (2, False, [2, 1]), (3, True)])), 325 + 327)

    def test_the_first_robot(self):
        self.assertEqual(effort(made(CROSS, [(4,)], [(A, B, 0, False)])), 25 * 9 + 5 * 9)
        self.assertEqual(effort(made(CROSS, [(2, False, [2, 1])], [(A, B, 0, True)])), 25 * 2 + 5 * 2)
        self.assertEqual(effort(made(CROSS, [(0, False, [0, 2, 1])], [(A, B, 0, False)])), 25 * 6 + 5 * 6)

    def test_more_robots_that_serve(self):
        fleet = made(CROSS, [(4,), (4,)], [(A, B, 1, False), (B, A, 0, False)])
        self.assertEqual(effort(fleet), 25 * 9 + 5 * 9 + 5 * 7)

    def test_robots_without_a_distance(self):
        self.assertEqual(effort(made(CROSS, [(4,), (0, True)], [(A, B, 0, False)])), 5 * 6)
        fleet = made(CROSS, [(4,), (0, True), (4,)], [(A, B, 0, False), (B, A, 2, False)])
        self.assertEqual(effort(fleet), 5 * 6 + 25 * 7 + 5 * 7)

    def test_a_first_robot_without_an_act(self):
        fleet = made(CROSS, [(4,), (3, False, [3]), (2, False, [2, 1])], [(B, A, 0, False)])
        self.assertEqual(effort(fleet), 25 * 7 + 5 * 7 + 326 + 327 + 19)

    def test_by_the_words_and_within_the_bound(self):
        delayed = 0
        for _, _, fleet in walks(seeds=6):
            before = rows_of(fleet)
            found = effort(fleet)
            self.assertIsInstance(found, int)
            self.assertEqual(found, rules.effort(fleet), before)
            self.assertGreaterEqual(found, 0)
            self.assertLessEqual(found, most_acts(fleet.floor, len(fleet.robots)))
            self.check_parts(fleet)
            self.assertEqual(rows_of(fleet), before)
            delayed += 0 if first_goes(fleet) else 1
        self.assertGreater(delayed, 20)

    def check_parts(self, fleet):
        n = fleet.floor.size
        total = delay(fleet)
        for robot in range(len(fleet.robots)):
            total += share_of(fleet, robot)
            if first_robot(fleet) == robot:
                total += (n + 1) * (n + 1) * work_of(fleet, robot)
        self.assertEqual(effort(fleet), total)

    def test_an_act_that_does_no_order_to_its_end_lowers_it(self):
        names = set()
        for _, _, fleet in walks(seeds=6):
            if keeps_promise(fleet.floor, len(fleet.robots), fleet.count_broken()):
                for robot in range(len(fleet.robots)):
                    names.add(self.check_lower(fleet, robot))
        self.assertEqual(names, {None, "load", "on", "home", "unload"})

    def check_lower(self, fleet, robot):
        act = act_of(fleet, robot)
        if act is None:
            return None
        name, behind = act
        if name != "unload":
            self.assertLess(effort(behind), effort(fleet), (rows_of(fleet), robot))
        return name
