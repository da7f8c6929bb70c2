"""[30], [31] with the distances of [14], and clearfloor/assign.py in the interface."""

import itertools
import unittest

from clearfloor.assign import assign, nearest_free, next_order
from clearfloor.distances import distance
from clearfloor.fleet import Fleet, Order, Robot
from clearfloor.maps import read_floor

# The cells are numbered from 0 to 7 and only 0 is at a door; A is 2, B is 5, C is 7.
ROW = read_floor("+.A..B.C")
A, B, C = 0, 1, 2


def row_fleet(places, orders=(), patience=4, broken=()):
    fleet = Fleet(ROW, robots=len(places), patience=patience)
    for number, place in enumerate(places):
        fleet.robots[number] = Robot(place, number in broken)
    fleet.orders = [Order(start, goal) for start, goal in orders]
    return fleet


def rows_of(fleet):
    robots = [(robot.place, robot.broken, list(robot.way)) for robot in fleet.robots]
    orders = [(order.start, order.goal, order.done, order.robot, order.loaded) for order in fleet.orders]
    return robots, orders, fleet.patience


class NearestFreeTest(unittest.TestCase):
    def test_the_least_distance(self):
        self.assertEqual(nearest_free(row_fleet([0, 3, 7]), [2]), 1)
        self.assertEqual(nearest_free(row_fleet([0, 4, 7]), [7, 5]), 2)
        self.assertEqual(nearest_free(row_fleet([2, 6, 4]), [5]), 1)
        self.assertEqual(nearest_free(row_fleet([7, 5]), [5]), 1)

    def test_the_least_number_of_several(self):
        self.assertEqual(nearest_free(row_fleet([7, 3, 1]), [2]), 1)
        self.assertEqual(nearest_free(row_fleet([7, 1, 3]), [2]), 1)
        self.assertEqual(nearest_free(row_fleet([8, 8, 8]), [2]), 0)
        self.assertEqual(nearest_free(row_fleet([2, 5]), [5, 2]), 0)

    def test_robots_in_the_depot_count_like_all_others(self):
        self.assertEqual(nearest_free(row_fleet([4, 8]), [0]), 1)
        self.assertEqual(nearest_free(row_fleet([8, 3]), [2]), 1)
        self.assertEqual(nearest_free(row_fleet([8, 5]), [2]), 0)
        self.assertEqual(nearest_free(row_fleet([5, 8]), [2]), 0)
        self.assertEqual(nearest_free(row_fleet([6, 8]), [2]), 1)

    def test_broken_ones_are_passed_over(self):
        self.assertEqual(nearest_free(row_fleet([8, 8, 7], broken=[0]), [2]), 1)
        self.assertEqual(nearest_free(row_fleet([8, 8, 7], broken=[0, 1]), [2]), 2)

    def test_serving_ones_are_passed_over(self):
        fleet = row_fleet([2, 1, 8], [(B, C), (A, C)])
        fleet.orders[1].give(0)
        self.assertEqual(nearest_free(fleet, [2]), 1)
        fleet.orders[0].give(1)
        self.assertEqual(nearest_free(fleet, [2]), 2)
        fleet.orders[1].finish()
        self.assertEqual(nearest_free(fleet, [2]), 0)

    def test_cells_of_broken_robots_are_closed(self):
        fleet = row_fleet([8, 1, 6], broken=[1])
        self.assertEqual(nearest_free(fleet, [2]), 2)
        self.assertEqual(nearest_free(fleet, [0]), 0)
        self.assertIsNone(nearest_free(fleet, [1]))

    def test_robots_that_run_close_nothing(self):
        fleet = row_fleet([8, 1, 3], [(A, B), (A, B)])
        fleet.orders[0].give(1)
        fleet.orders[1].give(2)
        self.assertEqual(nearest_free(fleet, [2]), 0)

    def test_none(self):
        fleet = row_fleet([8, 3, 1], [(A, B)], broken=[2])
        fleet.orders[0].give(1)
        self.assertIsNone(nearest_free(fleet, [2]))
        self.assertIsNone(nearest_free(row_fleet([]), [2]))
        self.assertIsNone(nearest_free(row_fleet([1, 8]), []))

    def test_robot_0_may_be_the_one_at_distance_0(self):
        self.assertEqual(nearest_free(row_fleet([5, 4]), [5]), 0)
        self.assertEqual(nearest_free(row_fleet([4, 5]), [5]), 1)


class NextOrderTest(unittest.TestCase):
    def test_the_first_order_without_a_robot(self):
        fleet = row_fleet([8, 6], [(A, B), (B, A), (C, A)])
        self.assertEqual(next_order(fleet), (0, 0))
        fleet.orders[0].give(0)
        self.assertEqual(next_order(fleet), (1, 1))
        fleet.orders[1].give(1)
        self.assertIsNone(next_order(fleet))

    def test_the_distance_is_that_to_the_start(self):
        self.assertEqual(next_order(row_fleet([3, 6], [(C, A)])), (0, 1))
        self.assertEqual(next_order(row_fleet([3, 6], [(A, C)])), (0, 0))

    def test_orders_that_are_done_are_passed_over(self):
        fleet = row_fleet([8], [(A, B), (B, A), (C, A)])
        fleet.orders[0].finish()
        self.assertEqual(next_order(fleet), (1, 0))
        fleet = row_fleet([8, 8], [(A, B), (B, A), (C, A)])
        fleet.orders[0].give(0)
        fleet.orders[1].finish()
        self.assertEqual(next_order(fleet), (2, 1))

    def test_orders_to_whose_start_no_free_robot_has_a_distance(self):
        fleet = row_fleet([8, 3, 6], [(C, A), (A, B), (B, A)], broken=[1, 2])
        self.assertEqual(next_order(fleet), (1, 0))
        fleet.orders[1].finish()
        self.assertIsNone(next_order(fleet))

    def test_orders_beyond_the_patience(self):
        fleet = row_fleet([8, 8, 8], [(A, B)] * 4, patience=2)
        fleet.orders[0].give(0)
        self.assertEqual(next_order(fleet), (1, 1))
        fleet.orders[1].give(1)
        self.assertIsNone(next_order(fleet))
        fleet.orders[0].finish()
        self.assertEqual(next_order(fleet), (2, 0))

    def test_the_patience_counts_from_the_first_open_order(self):
        fleet = row_fleet([8, 8], [(A, B)] * 6, patience=3)
        fleet.orders[0].finish()
        fleet.orders[1].give(0)
        fleet.orders[2].finish()
        fleet.orders[3].finish()
        self.assertIsNone(next_order(fleet))
        fleet.orders[1].finish()
        self.assertEqual(next_order(fleet), (4, 0))

    def test_patience_1(self):
        fleet = row_fleet([8, 8], [(A, B)] * 2, patience=1)
        self.assertEqual(next_order(fleet), (0, 0))
        fleet.orders[0].give(0)
        self.assertIsNone(next_order(fleet))

    def test_patience_beyond_all_orders(self):
        fleet = row_fleet([8, 8], [(A, B), (B, A)], patience=20)
        fleet.orders[0].give(1)
        self.assertEqual(next_order(fleet), (1, 0))

    def test_no_orders(self):
        self.assertIsNone(next_order(row_fleet([8])))


class AssignTest(unittest.TestCase):
    def test_again_and_again_in_this_very_fleet(self):
        fleet = row_fleet([8, 6, 3], [(C, A), (A, B), (B, A), (A, C)])
        self.assertEqual(assign(fleet), [(0, 1), (1, 2), (2, 0)])
        self.assertEqual([order.robot for order in fleet.orders], [1, 2, 0, None])
        self.assertEqual([order.loaded for order in fleet.orders], [False] * 4)
        self.assertEqual([order.done for order in fleet.orders], [False] * 4)

    def test_an_earlier_order_takes_the_robot_of_a_later_one(self):
        fleet = row_fleet([3, 7], [(B, A), (A, B)])
        self.assertEqual(assign(fleet), [(0, 0), (1, 1)])

    def test_orders_with_robots_keep_them(self):
        fleet = row_fleet([8, 2, 7], [(A, B), (B, A), (C, B)])
        fleet.orders[1].give(1)
        fleet.orders[1].load()
        self.assertEqual(assign(fleet), [(0, 0), (2, 2)])
        self.assertEqual(fleet.orders[1].robot, 1)
        self.assertTrue(fleet.orders[1].loaded)

    def test_orders_without_a_reachable_start_are_passed_over(self):
        fleet = row_fleet([8, 8, 4], [(C, A), (A, B), (B, A), (A, C)], broken=[2])
        self.assertEqual(assign(fleet), [(1, 0), (3, 1)])
        self.assertEqual([order.robot for order in fleet.orders], [None, 0, None, 1])

    def test_nothing_more_to_give(self):
        fleet = row_fleet([8, 8], [(A, B)], patience=1)
        self.assertEqual(assign(fleet), [(0, 0)])
        before = rows_of(fleet)
        self.assertEqual(assign(fleet), [])
        self.assertEqual(rows_of(fleet), before)
        self.assertEqual(assign(row_fleet([8])), [])
        self.assertEqual(assign(row_fleet([], [(A, B)])), [])

    def test_the_patience(self):
        fleet = row_fleet([8] * 6, [(A, B)] * 6)
        self.assertEqual(assign(fleet), [(0, 0), (1, 1), (2, 2), (3, 3)])
        fleet = row_fleet([8] * 6, [(A, B)] * 6, patience=2)
        fleet.orders[0].finish()
        fleet.orders[1].finish()
        self.assertEqual(assign(fleet), [(2, 0), (3, 1)])

    def test_robots_stay_where_they_are(self):
        fleet = row_fleet([8, 5], [(A, B), (B, A)])
        before = rows_of(fleet)[0]
        assign(fleet).append(9)
        self.assertEqual(rows_of(fleet)[0], before)
        self.assertEqual(assign(fleet), [])

    def test_every_small_fleet_by_the_rule(self):
        for places in itertools.product([1, 3, 6, 8], repeat=2):
            for broken in ([], [0], [1], [0, 1]):
                for starts in itertools.product([A, C], repeat=2):
                    if places[0] != places[1] or places[0] == ROW.depot:
                        self.check_rule(places, broken, starts)

    def check_rule(self, places, broken, starts):
        orders = [(start, B) for start in starts] + [(B, A)]
        fleet = row_fleet(list(places) + [4], orders, patience=2, broken=broken)
        twin = fleet.twin()
        wanted = []
        for number in (0, 1):
            best = self.best_robot(twin, starts[number])
            if best is not None:
                twin.orders[number].give(best)
                wanted.append((number, best))
        self.assertEqual(assign(fleet), wanted)
        self.assertEqual(rows_of(fleet), rows_of(twin))

    def best_robot(self, fleet, start):
        closed = [robot.place for robot in fleet.robots if robot.broken and robot.place < ROW.size]
        serving = [order.robot for order in fleet.orders]
        found = []
        for number, robot in enumerate(fleet.robots):
            steps = distance(ROW, closed, ROW.stations[start], robot.place)
            if steps is not None and not robot.broken and number not in serving:
                found.append((steps, number))
        return min(found)[1] if found else None


class QuestionsTest(unittest.TestCase):
    def test_questions_change_nothing(self):
        fleet = row_fleet([8, 3, 6], [(C, A), (A, B)], broken=[1])
        before = rows_of(fleet)
        cells = [7, 2]
        for _ in range(2):
            self.assertEqual(nearest_free(fleet, cells), 2)
            self.assertEqual(next_order(fleet), (0, 2))
        self.assertEqual(rows_of(fleet), before)
        self.assertEqual(cells, [7, 2])
        self.assertEqual(ROW.stations, [[2], [5], [7]])

    def test_a_robot_made_by_hand(self):
        fleet = row_fleet([8], [(A, B)])
        fleet.robots.append(Robot(1, way=[1, 0]))
        self.assertEqual(assign(fleet), [(0, 1)])
