"""[28], [32] to [36] and [40], with [15] for nearer positions, and clearfloor/acts.py in the interface."""

import random
import unittest

import rules
from clearfloor.acts import (
    act_of,
    can_step,
    careful_act,
    first_goes,
    first_robot,
    handle,
    idle_act,
    nearer_places,
    plain_act,
    step,
    step_home,
)
from clearfloor.events import broken_down, happen
from clearfloor.fleet import Robot
from walks import facts_fail, made, rows_of, walks

# The cells of CROSS: 0 is A, 1 a door, 2 the middle, 3 is B and a door; the depot is 4.
CROSS = "#A#\n+.b"
# The cells of SQUARE are 0 to 8, the doors its four corners; the middle 4 is A; the depot is 9.
SQUARE = "+.+\n.A.\n+.+"
ROW = "+.+"
# The cells 0 and 8 are doors, A is 2, B is 6; the depot is 9.
CORNERS = "+.A\n...\nB.+"
WIDE = "a..b\n....\n.CC."
A, B, C = 0, 1, 2


def places_of(fleet):
    return [robot.place for robot in fleet.robots]


def ways_of(fleet):
    return [robot.way for robot in fleet.robots]


def order_rows(fleet):
    return rows_of(fleet)[1]


class FirstRobotTest(unittest.TestCase):
    def test_no_orders_and_orders_without_robots(self):
        self.assertIsNone(first_robot(made(CROSS, [(4,), (4,)])))
        self.assertIsNone(first_robot(made(CROSS, [(4,), (4,)], [(A, B, None, False)])))
        self.assertIsNone(first_robot(made(CROSS, [])))

    def test_the_first_order_counts_and_not_the_first_robot(self):
        orders = [(A, B, 1, False), (B, A, 0, False)]
        self.assertEqual(first_robot(made(CROSS, [(4,), (4,)], orders)), 1)
        self.assertEqual(first_robot(made(CROSS, [(4,), (4,)], orders[::-1])), 0)

    def test_orders_without_a_robot_are_passed_over(self):
        orders = [(A, B, None, False), (B, A, 2, False), (B, A, 0, False)]
        self.assertEqual(first_robot(made(CROSS, [(4,), (4,), (4,)], orders)), 2)

    def test_orders_that_are_done_are_passed_over(self):
        fleet = made(CROSS, [(4,), (4,)], [(A, B, 1, True), (B, A, 0, False)])
        fleet.orders[0].finish()
        self.assertEqual(first_robot(fleet), 0)
        fleet.orders[1].finish()
        self.assertIsNone(first_robot(fleet))

    def test_passed_over_where_there_is_no_distance(self):
        fleet = made(CROSS, [(4,), (4,), (0, True)], [(A, B, 1, False), (B, A, 0, False)])
        self.assertEqual(first_robot(fleet), 0)

    def test_the_aim_of_a_loaded_order_is_its_goal(self):
        fleet = made(CROSS, [(4,), (4,), (0, True)], [(A, B, 1, True), (B, A, 0, False)])
        self.assertEqual(first_robot(fleet), 1)
        fleet = made(CROSS, [(4,), (4,), (0, True)], [(A, B, 1, False), (B, A, 0, True)])
        self.assertIsNone(first_robot(fleet))

    def test_none_where_no_robot_has_a_distance(self):
        fleet = made(CROSS, [(4,), (4,), (2, True)], [(A, B, 1, False), (A, B, 0, False)])
        self.assertIsNone(first_robot(fleet))

    def test_the_distance_begins_where_the_robot_stands(self):
        fleet = made("+..A..B", [(7,), (5, False, [5]), (2, True)], [(A, B, 0, False), (B, A, 1, False)])
        self.assertEqual(first_robot(fleet), 1)

    def test_a_robot_on_its_aim_is_the_first_robot_too(self):
        fleet = made(CROSS, [(3, False, [3]), (4,)], [(A, B, 0, True), (B, A, 1, False)])
        self.assertEqual(first_robot(fleet), 0)


class NearerPlacesTest(unittest.TestCase):
    def test_in_the_order_of_around(self):
        self.assertEqual(nearer_places(made(SQUARE, [(0, False, [0])]), [4], 0), [1, 3])
        self.assertEqual(nearer_places(made(SQUARE, [(9,)]), [4], 0), [0, 2, 6, 8])
        self.assertEqual(nearer_places(made(SQUARE, [(9,), (5, False, [5, 2])]), [0, 8], 1), [8])

    def test_the_depot_comes_last(self):
        self.assertEqual(nearer_places(made(ROW, [(0, False, [0])]), [2], 0), [1, 3])
        self.assertEqual(nearer_places(made(SQUARE, [(0, False, [0])]), [8], 0), [9])

    def test_robots_that_run_close_nothing(self):
        self.assertEqual(nearer_places(made(SQUARE, [(0, False, [0]), (1, False, [1, 2])]), [4], 0), [1, 3])

    def test_broken_robots_close_their_cells(self):
        self.assertEqual(nearer_places(made(SQUARE, [(0, False, [0]), (1, True)]), [4], 0), [3])
        self.assertEqual(nearer_places(made(SQUARE, [(0, False, [0]), (9, True)]), [4], 0), [1, 3])

    def test_no_distance_or_the_distance_0(self):
        self.assertEqual(nearer_places(made(SQUARE, [(4, False, [4, 1, 0])]), [4], 0), [])
        self.assertEqual(nearer_places(made(SQUARE, [(0, False, [0]), (4, True)]), [4], 0), [])
        self.assertEqual(nearer_places(made(SQUARE, [(0, True)]), [4], 0), [])


class StepTest(unittest.TestCase):
    def test_onto_a_free_cell(self):
        behind = step(made(SQUARE, [(9,)]), 0, 6)
        self.assertEqual(rows_of(behind)[0], [(6, False, [6])])
        behind = step(behind, 0, 3)
        self.assertEqual(rows_of(behind)[0], [(3, False, [3, 0])])
        behind = step(behind, 0, 4)
        self.assertEqual(rows_of(behind)[0], [(4, False, [4, 1, 0])])

    def test_the_ways_of_others_change_where_they_have_to(self):
        behind = step(made(ROW, [(1, False, [1, 0]), (3,)]), 1, 0)
        self.assertEqual(rows_of(behind)[0], [(1, False, [1, 2]), (0, False, [0])])

    def test_others_keep_their_order_and_the_last_new_way_is_the_robots(self):
        behind = step(made(SQUARE, [(9,), (1, False, [1, 0]), (7, False, [7, 6])]), 0, 0)
        self.assertEqual(places_of(behind), [0, 1, 7])
        self.assertEqual(ways_of(behind), [[0], [1, 2], [7, 6]])
        behind = step(made(SQUARE, [(7, False, [7, 6]), (9,), (1, False, [1, 0])]), 1, 0)
        self.assertEqual(places_of(behind), [7, 0, 1])
        self.assertEqual(ways_of(behind), [[7, 6], [0], [1, 2]])
        behind = step(made(SQUARE, [(1, False, [1, 0]), (7, False, [7, 6]), (9,)]), 2, 0)
        self.assertEqual(ways_of(behind), [[1, 2], [7, 6], [0]])

    def test_robots_in_the_depot_and_broken_ones_keep_the_empty_way(self):
        behind = step(made(SQUARE, [(9,), (8, True), (9, True), (9,), (1, False, [1, 0])]), 3, 0)
        self.assertEqual(ways_of(behind), [[], [], [], [0], [1, 2]])
        self.assertEqual(places_of(behind), [9, 8, 9, 0, 1])

    def test_the_robots_own_way_is_not_kept(self):
        behind = step(made(ROW, [(0, False, [0]), (2, False, [2])]), 0, 1)
        self.assertEqual(rows_of(behind)[0], [(1, False, [1, 0]), (2, False, [2])])

    def test_cells_of_broken_robots_are_closed(self):
        behind = step(made(ROW, [(2, False, [2]), (0, True)]), 0, 1)
        self.assertEqual(rows_of(behind)[0], [(1, False, [1, 2]), (0, True, [])])

    def test_onto_a_taken_cell(self):
        fleet = made(ROW, [(0, False, [0]), (1, False, [1, 2])])
        self.assertIsNone(step(fleet, 0, 1))
        self.assertFalse(can_step(fleet, 0, 1))
        fleet = made(ROW, [(0, False, [0]), (1, True)])
        self.assertIsNone(step(fleet, 0, 1))
        self.assertFalse(can_step(fleet, 0, 1))
        self.assertIsNone(step(made(ROW, [(0, True), (3,)]), 1, 0))

    def test_where_there_is_no_way_more(self):
        fleet = made(CROSS, [(0, False, [0, 2, 1]), (3, False, [3])])
        self.assertIsNone(step(fleet, 1, 2))
        self.assertFalse(can_step(fleet, 1, 2))
        self.assertIsNone(step(made("A.+", [(0, False, [0, 1, 2]), (3,)]), 1, 2))

    def test_into_the_depot(self):
        fleet = made(SQUARE, [(0, False, [0]), (1, False, [1, 4, 3, 6])])
        behind = step(fleet, 0, 9)
        self.assertEqual(rows_of(behind)[0], [(9, False, []), (1, False, [1, 4, 3, 6])])
        behind = step(made(SQUARE, [(0, False, [0]), (9,), (9, True)]), 0, 9)
        self.assertEqual(places_of(behind), [9, 9, 9])
        behind = step(made(CROSS, [(3, False, [3, 2, 1])]), 0, 4)
        self.assertEqual(rows_of(behind)[0], [(4, False, [])])

    def test_to_a_position_that_is_not_next_to_its_own(self):
        for place, others in ((0, [0, 2, 4, 8]), (4, [0, 2, 4, 6, 8, 9]), (9, [1, 3, 4, 5, 7, 9])):
            ways = {0: [0], 4: [4, 1, 0], 9: []}
            fleet = made(SQUARE, [(place, False, ways[place])])
            for position in others:
                self.assertIsNone(step(fleet, 0, position), (place, position))
                self.assertFalse(can_step(fleet, 0, position), (place, position))

    def test_of_a_broken_robot(self):
        for place in (0, 9):
            fleet = made(SQUARE, [(place, True)])
            for position in range(10):
                self.assertIsNone(step(fleet, 0, position))
                self.assertFalse(can_step(fleet, 0, position))

    def test_can_step_is_true_or_false(self):
        fleet = made(SQUARE, [(0, False, [0]), (1, False, [1, 2])])
        self.assertEqual([can_step(fleet, 0, position) for position in (1, 3, 9)], [False, True, True])
        self.assertIsInstance(can_step(fleet, 0, 3), bool)

    def test_orders_stay(self):
        fleet = made(SQUARE, [(0, False, [0])], [(A, B, 0, True)], patience=7)
        for position in (1, 9):
            behind = step(fleet, 0, position)
            self.assertEqual((order_rows(behind), behind.patience), (order_rows(fleet), 7))

    def test_all_steps_by_the_words(self):
        for _, _, fleet in walks(seeds=1, count=25):
            for robot in range(len(fleet.robots)):
                for position in range(fleet.floor.size + 1):
                    self.check_step(fleet, robot, position)

    def check_step(self, fleet, robot, position):
        before = rows_of(fleet)
        behind = step(fleet, robot, position)
        wanted = rules.stepped(fleet, robot, position)
        self.assertEqual(behind is None, wanted is None, (before, robot, position))
        self.assertEqual(can_step(fleet, robot, position), behind is not None)
        if behind is not None:
            self.assertEqual(rows_of(behind), rows_of(wanted), (before, robot, position))
            self.assertIsNone(facts_fail(behind))
        self.assertEqual(rows_of(fleet), before)


class StepHomeTest(unittest.TestCase):
    def test_along_the_way_and_into_the_depot(self):
        fleet = made(SQUARE, [(4, False, [4, 7, 8])])
        fleet = step_home(fleet, 0)
        self.assertEqual(rows_of(fleet)[0], [(7, False, [7, 8])])
        fleet = step_home(fleet, 0)
        self.assertEqual(rows_of(fleet)[0], [(8, False, [8])])
        fleet = step_home(fleet, 0)
        self.assertEqual(rows_of(fleet)[0], [(9, False, [])])

    def test_the_way_is_kept_past_a_door(self):
        fleet = step_home(made(ROW, [(0, False, [0, 1, 2])]), 0)
        self.assertEqual(rows_of(fleet)[0], [(1, False, [1, 2])])

    def test_no_other_way_changes(self):
        fleet = made(SQUARE, [(0, False, [0, 1, 2]), (4, False, [4, 3, 6]), (8, True)], [(A, B, 0, True)], patience=3)
        behind = step_home(fleet, 1)
        rows = [(0, False, [0, 1, 2]), (3, False, [3, 6]), (8, True, [])]
        self.assertEqual(rows_of(behind), (rows, [(A, B, False, 0, True)], 3))

    def test_every_robot_can_go_home_whatever_breaks_down(self):
        rng = random.Random(5)
        for _, _, fleet in walks(seeds=2):
            for _ in range(rng.randrange(3)):
                running = fleet.running()
                if running:
                    fleet = broken_down(fleet, rng.choice(running))
            self.check_home(fleet, rng)

    def check_home(self, fleet, rng):
        while fleet.running():
            robot = rng.choice(fleet.running())
            before = rows_of(fleet)[0]
            fails = rng.random() < 0.1
            fleet = broken_down(fleet, robot) if fails else step_home(fleet, robot)
            self.assertIsNone(facts_fail(fleet))
            self.assertNotEqual(rows_of(fleet)[0], before)
        self.assertTrue(all(robot.place == fleet.floor.depot for robot in fleet.robots if not robot.broken))


class HandleTest(unittest.TestCase):
    def test_load_and_unload(self):
        fleet = made(CROSS, [(0, False, [0, 2, 1])], [(B, A, None, False), (A, B, 0, False)])
        name, behind = handle(fleet, 1)
        self.assertEqual(name, "load")
        self.assertEqual(order_rows(behind), [(B, A, False, None, False), (A, B, False, 0, True)])
        name, behind = handle(behind, 1)
        self.assertEqual(name, "unload")
        self.assertEqual(order_rows(behind), [(B, A, False, None, False), (A, B, True, None, False)])

    def test_robots_stay(self):
        fleet = made(CROSS, [(0, False, [0, 2, 1]), (3, True)], [(A, B, 0, False)])
        self.assertEqual(rows_of(handle(fleet, 0)[1])[0], rows_of(fleet)[0])
        self.assertIsInstance(handle(fleet, 0), tuple)


class PlainActTest(unittest.TestCase):
    def test_rule_1_of_the_first_robot(self):
        name, behind = plain_act(made(CROSS, [(0, False, [0, 2, 1])], [(A, B, 0, False)]), 0, 0)
        self.assertEqual((name, order_rows(behind)), ("load", [(A, B, False, 0, True)]))
        name, behind = plain_act(made(CROSS, [(3, False, [3])], [(A, B, 0, True)]), 0, 0)
        self.assertEqual((name, order_rows(behind)), ("unload", [(A, B, True, None, False)]))

    def test_rule_1_of_another_robot(self):
        fleet = made(CROSS, [(4,), (3, False, [3])], [(B, A, 0, False), (B, A, 1, False)])
        name, behind = plain_act(fleet, 1, 1)
        self.assertEqual((name, order_rows(behind)[1]), ("load", (B, A, False, 1, True)))

    def test_rule_2(self):
        name, behind = plain_act(made(CROSS, [(1, False, [1])], [(A, B, 0, False)]), 0, 0)
        self.assertEqual((name, places_of(behind)), ("on", [2]))

    def test_rule_2_takes_the_first_position_to_which_it_can_step(self):
        robots = [(6, False, [6, 7, 4, 5, 8]), (3, False, [3, 0])]
        name, behind = plain_act(made(CORNERS, robots, [(B, A, 0, True)]), 0, 0)
        self.assertEqual((name, places_of(behind)), ("on", [7, 3]))
        name, behind = plain_act(made(CORNERS, [(6, False, [6, 7, 8])], [(B, A, 0, True)]), 0, 0)
        self.assertEqual((name, places_of(behind)), ("on", [3]))

    def test_rule_2_none(self):
        self.assertIsNone(plain_act(made(CROSS, [(4,), (3, False, [3])], [(B, A, 0, False)]), 0, 0))
        robots = [(3, False, [3]), (0, False, [0, 2, 1])]
        self.assertIsNone(plain_act(made(CROSS, robots, [(B, A, 0, True)]), 0, 0))

    def test_none_of_a_robot_that_is_not_the_first(self):
        fleet = made(CROSS, [(4,), (4,)], [(A, B, 0, False), (B, A, 1, False)])
        self.assertIsNone(plain_act(fleet, 1, 1))
        self.assertEqual(plain_act(fleet, 0, 0)[0], "on")

    def test_none_of_a_robot_without_a_distance(self):
        fleet = made(CROSS, [(4,), (0, True)], [(A, B, 0, False)])
        self.assertIsNone(plain_act(fleet, 0, 0))


class FirstGoesTest(unittest.TestCase):
    def test_no_first_robot(self):
        self.assertIs(first_goes(made(CROSS, [(4,)])), True)
        self.assertIs(first_goes(made(CROSS, [(4,), (0, True)], [(A, B, 0, False)])), True)

    def test_a_first_robot_with_an_act(self):
        self.assertIs(first_goes(made(CROSS, [(4,)], [(A, B, 0, False)])), True)
        self.assertIs(first_goes(made(CROSS, [(3, False, [3])], [(A, B, 0, True)])), True)
        self.assertIs(first_goes(made(CROSS, [(0, False, [0, 2, 1])], [(A, B, 0, False)])), True)

    def test_a_first_robot_without_an_act(self):
        self.assertIs(first_goes(made(CROSS, [(4,), (3, False, [3])], [(B, A, 0, False)])), False)
        robots = [(3, False, [3]), (0, False, [0, 2, 1])]
        self.assertIs(first_goes(made(CROSS, robots, [(B, A, 0, True)])), False)

    def test_the_first_robot_serves_a_later_order(self):
        orders = [(A, B, None, False), (A, B, 1, False), (B, A, 0, False)]
        self.assertIs(first_goes(made(CROSS, [(4,), (4,), (3, False, [3]), (0, True)], orders)), False)
        self.assertIs(first_goes(made(CROSS, [(4,), (4,), (0, True)], orders)), True)


class CarefulActTest(unittest.TestCase):
    def test_on(self):
        fleet = made(CROSS, [(4,), (4,)], [(A, B, 0, False), (B, A, 1, False)])
        name, behind = careful_act(fleet, 1, 1)
        self.assertEqual((name, places_of(behind)), ("on", [4, 3]))

    def test_past_a_taken_position(self):
        fleet = made(CROSS, [(1, False, [1]), (4,)], [(A, B, 0, False), (A, B, 1, False)])
        name, behind = careful_act(fleet, 1, 1)
        self.assertEqual((name, places_of(behind)), ("on", [1, 3]))

    def test_past_a_position_behind_which_the_first_robot_has_no_act(self):
        fleet = made(WIDE, [(12,), (12,)], [(A, C, 0, False), (C, B, 1, False)])
        name, behind = careful_act(fleet, 1, 1)
        self.assertEqual((name, places_of(behind)), ("on", [12, 3]))

    def test_none(self):
        fleet = made(CROSS, [(3, False, [3]), (1, False, [1])], [(B, A, 0, True), (A, B, 1, False)])
        self.assertIsNone(careful_act(fleet, 1, 1))
        fleet = made(CROSS, [(2, False, [2, 1]), (3, False, [3])], [(B, A, 0, True), (B, A, 1, True)])
        self.assertIsNone(careful_act(fleet, 1, 1))

    def test_where_there_is_no_first_robot(self):
        # The robot 0 has no distance to its aim, so the robot 1 is the first one; it has no distance either.
        orders = [(A, B, 0, False), (A, B, 1, False)]
        self.assertIsNone(careful_act(made(CROSS, [(4,), (4,), (0, True)], orders), 1, 1))


class IdleActTest(unittest.TestCase):
    def test_home(self):
        name, behind = idle_act(made(CROSS, [(2, False, [2, 1])]), 0)
        self.assertEqual((name, rows_of(behind)[0]), ("home", [(1, False, [1])]))
        name, behind = idle_act(behind, 0)
        self.assertEqual((name, rows_of(behind)[0]), ("home", [(4, False, [])]))

    def test_home_where_the_first_robot_has_no_act(self):
        fleet = made(CROSS, [(2, False, [2, 1]), (3, False, [3])], [(B, A, 1, True)])
        name, behind = idle_act(fleet, 0)
        self.assertEqual((name, rows_of(behind)[0]), ("home", [(1, False, [1]), (3, False, [3])]))

    def test_home_where_the_first_robot_has_no_act_before_and_behind(self):
        fleet = made(CROSS, [(0, False, [0, 2, 1]), (3, False, [3])], [(B, A, 1, True)])
        name, behind = idle_act(fleet, 0)
        self.assertEqual((name, places_of(behind)), ("home", [2, 3]))
        self.assertFalse(first_goes(behind))

    def test_none_where_the_first_robot_would_have_no_act(self):
        fleet = made(CROSS, [(4,), (2, False, [2, 3])], [(A, B, 0, True)])
        self.assertTrue(first_goes(fleet))
        self.assertIsNone(idle_act(fleet, 1))

    def test_none_in_the_depot(self):
        self.assertIsNone(idle_act(made(CROSS, [(4,)]), 0))
        fleet = made(CROSS, [(4,), (4,), (3, False, [3])], [(B, A, 0, False)])
        self.assertIsNone(idle_act(fleet, 1))


class ActOfTest(unittest.TestCase):
    def check(self, fleet, robot, name, rows):
        found, behind = act_of(fleet, robot)
        self.assertEqual(found, name)
        self.assertEqual(rows_of(behind)[0], rows)

    def test_none_of_a_broken_robot(self):
        for place in range(5):
            self.assertIsNone(act_of(made(CROSS, [(place, True)]), 0))
            self.assertIsNone(act_of(made(CROSS, [(place, True), (4,)], [(A, B, 1, False)]), 0))

    def test_rule_1_load(self):
        fleet = made(CROSS, [(0, False, [0, 2, 1])], [(A, B, 0, False)])
        self.check(fleet, 0, "load", [(0, False, [0, 2, 1])])
        self.assertEqual(order_rows(act_of(fleet, 0)[1]), [(A, B, False, 0, True)])

    def test_rule_1_unload(self):
        fleet = made(CROSS, [(3, False, [3])], [(A, B, 0, True), (B, A, None, False)])
        self.check(fleet, 0, "unload", [(3, False, [3])])
        # Orders are not given robots yet.
        self.assertEqual(order_rows(act_of(fleet, 0)[1]), [(A, B, True, None, False), (B, A, False, None, False)])

    def test_rule_1_before_all_others(self):
        # The robot 0 is the first one and has no act; the robot 1 would go home but for its load.
        fleet = made(CROSS, [(4,), (3, False, [3])], [(B, A, 0, False), (B, A, 1, False)])
        self.assertFalse(first_goes(fleet))
        self.check(fleet, 1, "load", [(4, False, []), (3, False, [3])])

    def test_rule_2(self):
        fleet = made(CROSS, [(1, False, [1])], [(A, B, 0, False)])
        self.check(fleet, 0, "on", [(2, False, [2, 1])])
        robots = [(6, False, [6, 7, 4, 5, 8]), (3, False, [3, 0])]
        fleet = made(CORNERS, robots, [(B, A, 0, True), (B, A, 1, False)])
        self.check(fleet, 0, "on", [(7, False, [7, 8]), (3, False, [3, 0])])

    def test_rule_2_none_where_it_cannot_step(self):
        fleet = made(CROSS, [(2, False, [2, 1]), (3, False, [3])], [(A, B, 0, True)])
        self.assertIsNone(act_of(fleet, 0))

    def test_rule_3(self):
        fleet = made(CROSS, [(4,), (4,)], [(A, B, 0, False), (B, A, 1, False)])
        self.check(fleet, 1, "on", [(4, False, []), (3, False, [3])])
        fleet = made(WIDE, [(12,), (12,)], [(A, C, 0, False), (C, B, 1, False)])
        self.check(fleet, 1, "on", [(12, False, []), (3, False, [3])])

    def test_rule_3_none(self):
        fleet = made(CROSS, [(3, False, [3]), (1, False, [1])], [(B, A, 0, True), (A, B, 1, False)])
        self.assertEqual(act_of(fleet, 0)[0], "on")
        self.assertIsNone(act_of(fleet, 1))

    def test_rule_3_of_a_robot_without_a_distance(self):
        fleet = made(CROSS, [(4,), (1, False, [1]), (0, True)], [(B, A, 0, False), (A, B, 1, False)])
        self.assertIsNone(act_of(fleet, 1))
        fleet = made(CROSS, [(4,), (1, False, [1]), (0, True)], [(A, B, 0, False), (A, B, 1, False)])
        self.assertIsNone(act_of(fleet, 1))

    def test_rule_4(self):
        fleet = made(CROSS, [(4,), (3, False, [3])], [(B, A, 0, False), (B, A, 1, True)])
        self.check(fleet, 1, "home", [(4, False, []), (4, False, [])])
        self.assertEqual(order_rows(act_of(fleet, 1)[1]), order_rows(fleet))
        fleet = made(CROSS, [(0, False, [0, 2, 1]), (3, False, [3])], [(B, A, 1, True), (A, B, 0, True)])
        self.check(fleet, 0, "home", [(2, False, [2, 1]), (3, False, [3])])

    def test_rule_4_of_a_robot_without_a_distance(self):
        robots = [(4,), (3, False, [3]), (0, True)]
        fleet = made(CROSS, robots, [(B, A, 0, False), (B, A, 1, True)])
        self.assertFalse(first_goes(fleet))
        self.check(fleet, 1, "home", [(4, False, []), (4, False, []), (0, True, [])])

    def test_rule_4_none_in_the_depot(self):
        fleet = made(CROSS, [(4,), (4,), (3, False, [3])], [(B, A, 0, False), (A, B, 1, False)])
        self.assertFalse(first_goes(fleet))
        self.assertIsNone(act_of(fleet, 1))

    def test_rule_5(self):
        self.check(made(CROSS, [(2, False, [2, 1])]), 0, "home", [(1, False, [1])])
        fleet = made(CROSS, [(2, False, [2, 1]), (3, False, [3])], [(B, A, 1, True)])
        self.check(fleet, 0, "home", [(1, False, [1]), (3, False, [3])])

    def test_rule_5_none(self):
        self.assertIsNone(act_of(made(CROSS, [(4,)]), 0))
        self.assertIsNone(act_of(made(CROSS, [(4,), (2, False, [2, 3])], [(A, B, 0, True)]), 1))

    def test_the_first_robot_behind_a_step_is_found_anew(self):
        # Behind the load of the robot 0 its aim is closed, and the robot 1 is the first one.
        fleet = made(CROSS, [(0, False, [0, 2, 1]), (4,), (3, True)], [(A, B, 0, False), (A, B, 1, False)])
        self.assertEqual(first_robot(fleet), 0)
        self.assertEqual(first_robot(act_of(fleet, 0)[1]), 1)

    def test_all_acts_by_the_rules(self):
        names = set()
        for _, _, fleet in walks(seeds=6):
            for robot in range(len(fleet.robots)):
                names.add(self.check_act(fleet, robot))
        wanted = {"load", "unload", "on first", "on", "home", "home serving", "home for the first", "none"}
        self.assertEqual(names, wanted)

    def check_act(self, fleet, robot):
        before = rows_of(fleet)
        found = act_of(fleet, robot)
        wanted = rules.act(fleet, robot)
        self.assertEqual(rows_of(fleet), before)
        if wanted is None:
            self.assertIsNone(found, (before, robot))
            return "none"
        name, behind = found
        self.assertEqual((name, rows_of(behind)), (wanted[0], rows_of(wanted[1])), (before, robot))
        self.assertIsNone(facts_fail(behind))
        if name == "on" and first_robot(fleet) == robot:
            return "on first"
        if name == "home" and fleet.order_of(robot) is not None:
            return "home serving"
        return "home for the first" if name == "home" and not first_goes(fleet) else name


def busy_fleet():
    robots = [(2, False, [2, 1]), (3, False, [3]), (4,), (4, True)]
    return made(CROSS, robots, [(A, B, 0, False), (B, A, 1, False), (B, A, 2, False)])


def calm_fleet():
    robots = [(9,), (9,), (1, False, [1, 0]), (9, True)]
    return made("+.+\n.A.\n+.b", robots, [(A, B, 0, False), (B, A, 1, False)])


def results(busy, calm):
    return [
        (busy, step(busy, 0, 0)),
        (busy, step(busy, 0, 1)),
        (busy, step(busy, 1, 4)),
        (busy, step_home(busy, 0)),
        (busy, handle(busy, 0)[1]),
        (busy, plain_act(busy, 0, 0)[1]),
        (busy, plain_act(busy, 1, 1)[1]),
        (busy, act_of(busy, 0)[1]),
        (busy, act_of(busy, 1)[1]),
        (calm, careful_act(calm, 1, 1)[1]),
        (calm, idle_act(calm, 2)[1]),
        (calm, act_of(calm, 1)[1]),
        (calm, act_of(calm, 2)[1]),
    ]


def spoil(fleet):
    for robot in fleet.robots:
        robot.way.append(77)
        robot.place = 66
        robot.broken = True
    for order in fleet.orders:
        order.finish()
    fleet.robots.append(Robot(5))
    fleet.orders.clear()


class FleetsStayTest(unittest.TestCase):
    def test_the_fleet_that_was_handed_in_stays(self):
        fleets = [busy_fleet(), calm_fleet()]
        before = [rows_of(fleet) for fleet in fleets]
        for fleet, behind in results(*fleets):
            self.assertEqual([rows_of(each) for each in fleets], before)
            self.assertIsNot(behind, fleet)
            self.assertIs(behind.floor, fleet.floor)
            spoil(behind)
            self.assertEqual([rows_of(each) for each in fleets], before)

    def test_two_calls_agree(self):
        fleets = [busy_fleet(), calm_fleet()]
        first = [rows_of(behind) for _, behind in results(*fleets)]
        for _, behind in results(*fleets):
            spoil(behind)
        self.assertEqual([rows_of(behind) for _, behind in results(*fleets)], first)

    def test_questions_change_nothing(self):
        fleet = busy_fleet()
        before = rows_of(fleet)
        cells = [0]
        nearer_places(fleet, cells, 1).append(9)
        self.assertEqual(nearer_places(fleet, cells, 1), [2])
        first_robot(fleet)
        first_goes(fleet)
        can_step(fleet, 0, 0)
        self.assertEqual((rows_of(fleet), cells), (before, [0]))

    def test_acts_are_what_happens_when_a_robot_is_let_go(self):
        fleet = made(CROSS, [(1, False, [1])], [(A, B, 0, False)])
        self.assertEqual(rows_of(happen(fleet, ("go", 0))), rows_of(act_of(fleet, 0)[1]))
