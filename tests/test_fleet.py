"""[27] to [30], the new fleet of [37], and clearfloor/fleet.py in the interface."""

import unittest

from clearfloor.fleet import Fleet, Order, Robot
from clearfloor.maps import read_floor

# Station A has the cells 0 and 4, station B the cell 3; the doors are 3 and 5.
TEXT = "A..\nbA+"


def mixed_fleet():
    """Robots 0 to 5: one in the depot, three on the floor, of them one broken, and two more."""
    fleet = Fleet(read_floor(TEXT), robots=6, patience=2)
    fleet.robots[1] = Robot(4, way=[4, 5])
    fleet.robots[2] = Robot(2, True)
    fleet.robots[3] = Robot(0, way=[0, 3])
    fleet.robots[4] = Robot(1, True)
    fleet.robots[5] = Robot(fleet.floor.depot, True)
    fleet.orders = [Order(0, 1), Order(1, 0), Order(0, 1), Order(1, 0)]
    fleet.orders[0].finish()
    fleet.orders[1].give(3)
    fleet.orders[2].give(0)
    fleet.orders[2].load()
    return fleet


def robot_row(robot):
    return robot.place, robot.broken, robot.way


def order_row(order):
    return order.start, order.goal, order.done, order.robot, order.loaded


def rows_of(fleet):
    return [robot_row(robot) for robot in fleet.robots], [order_row(order) for order in fleet.orders]


class RobotTest(unittest.TestCase):
    def test_fields(self):
        self.assertEqual(robot_row(Robot(7)), (7, False, []))
        self.assertEqual(robot_row(Robot(7, True)), (7, True, []))
        self.assertEqual(robot_row(Robot(7, False, (7, 8))), (7, False, [7, 8]))
        self.assertEqual(robot_row(Robot(place=1, broken=True, way=[1, 2])), (1, True, [1, 2]))

    def test_the_way_is_a_new_list(self):
        way = [7, 8]
        robot = Robot(7, False, way)
        way.append(9)
        self.assertEqual(robot.way, [7, 8])
        robot.way.append(5)
        self.assertEqual(way, [7, 8, 9])
        self.assertIsInstance(Robot(7).way, list)
        Robot(7).way.append(1)
        self.assertEqual(Robot(7).way, [])

    def test_twin(self):
        for robot in (Robot(7), Robot(3, True), Robot(5, False, [5, 6])):
            twin = robot.twin()
            self.assertIsInstance(twin, Robot)
            self.assertIsNot(twin, robot)
            self.assertEqual(robot_row(twin), robot_row(robot))

    def test_a_twin_shares_nothing(self):
        robot = Robot(5, False, [5, 6])
        twin = robot.twin()
        twin.way.append(7)
        twin.place = 6
        twin.broken = True
        self.assertEqual(robot_row(robot), (5, False, [5, 6]))
        robot.way.pop()
        self.assertEqual(robot_row(twin), (6, True, [5, 6, 7]))


class OrderTest(unittest.TestCase):
    def test_fields(self):
        self.assertEqual(order_row(Order(2, 0)), (2, 0, False, None, False))
        self.assertEqual(order_row(Order(start=1, goal=3)), (1, 3, False, None, False))

    def test_give(self):
        order = Order(0, 1)
        order.give(0)
        self.assertEqual(order_row(order), (0, 1, False, 0, False))
        order.give(4)
        self.assertEqual(order_row(order), (0, 1, False, 4, False))

    def test_load(self):
        order = Order(0, 1)
        order.give(4)
        order.load()
        self.assertEqual(order_row(order), (0, 1, False, 4, True))

    def test_release(self):
        order = Order(0, 1)
        order.give(4)
        order.load()
        order.release()
        self.assertEqual(order_row(order), (0, 1, False, None, False))

    def test_finish(self):
        order = Order(0, 1)
        order.give(4)
        order.load()
        order.finish()
        self.assertEqual(order_row(order), (0, 1, True, None, False))

    def test_twin(self):
        order = Order(3, 1)
        rows = [order_row(order)]
        order.give(2)
        rows.append(order_row(order.twin()))
        order.load()
        twin = order.twin()
        rows.append(order_row(twin))
        order.finish()
        rows.append(order_row(order.twin()))
        self.assertEqual(rows, [
            (3, 1, False, None, False), (3, 1, False, 2, False), (3, 1, False, 2, True), (3, 1, True, None, False),
        ])
        self.assertIsInstance(twin, Order)
        self.assertEqual(order_row(twin), (3, 1, False, 2, True))

    def test_release_does_not_undo_done(self):
        order = Order(3, 1)
        order.finish()
        order.release()
        self.assertEqual(order_row(order), (3, 1, True, None, False))


class NewFleetTest(unittest.TestCase):
    def test_all_robots_run_and_are_in_the_depot(self):
        floor = read_floor(TEXT)
        fleet = Fleet(floor, robots=3)
        self.assertIs(fleet.floor, floor)
        self.assertEqual([robot_row(robot) for robot in fleet.robots], [(6, False, [])] * 3)
        self.assertEqual(len(set(map(id, fleet.robots))), 3)
        self.assertIsInstance(fleet.robots[0], Robot)
        self.assertEqual(fleet.orders, [])

    def test_patience(self):
        self.assertEqual(Fleet(read_floor("+"), robots=1).patience, 4)
        self.assertEqual(Fleet(read_floor("+"), robots=1, patience=9).patience, 9)

    def test_what_it_answers(self):
        fleet = Fleet(read_floor(TEXT), robots=2)
        self.assertEqual((fleet.closed(), fleet.taken(), fleet.running()), ([], [], []))
        self.assertEqual(fleet.kept_ways([0, 1]), [[], []])
        self.assertEqual((fleet.first_open(), fleet.count_broken(), fleet.count_done()), (0, 0, 0))
        self.assertEqual((fleet.order_of(0), fleet.is_free(0), fleet.is_free(1)), (None, True, True))

    def test_robots_and_patience_are_named(self):
        with self.assertRaises(TypeError):
            Fleet(read_floor("+"), 1)


class TwinTest(unittest.TestCase):
    def test_it_is_like_the_fleet(self):
        fleet = mixed_fleet()
        twin = fleet.twin()
        self.assertIsInstance(twin, Fleet)
        self.assertEqual(rows_of(twin), rows_of(fleet))
        self.assertEqual(twin.patience, 2)
        self.assertIs(twin.floor, fleet.floor)

    def test_it_shares_nothing_but_the_floor(self):
        fleet = mixed_fleet()
        wanted = rows_of(mixed_fleet())
        twin = fleet.twin()
        twin.robots[1].way.append(2)
        twin.robots[2].broken = False
        twin.robots[3].place = 5
        twin.robots.append(Robot(6))
        twin.orders[1].load()
        twin.orders[2].finish()
        twin.orders.append(Order(0, 1))
        twin.patience = 7
        self.assertEqual(rows_of(fleet), wanted)
        self.assertEqual(fleet.patience, 2)
        twin = fleet.twin()
        fleet.robots.pop()
        fleet.robots[1].way.pop()
        fleet.orders[1].release()
        fleet.orders.pop()
        self.assertEqual(rows_of(twin), wanted)

    def test_a_fleet_without_robots_and_orders(self):
        twin = Fleet(read_floor("+"), robots=0, patience=1).twin()
        self.assertEqual((rows_of(twin), twin.patience), (([], []), 1))


class CellsTest(unittest.TestCase):
    def test_closed_are_the_cells_of_broken_robots_on_the_floor(self):
        self.assertEqual(mixed_fleet().closed(), [1, 2])

    def test_taken_are_the_cells_of_all_robots_on_the_floor(self):
        self.assertEqual(mixed_fleet().taken(), [0, 1, 2, 4])

    def test_running_are_the_robots_on_the_floor_that_run(self):
        self.assertEqual(mixed_fleet().running(), [1, 3])

    def test_kept_ways_in_the_order_of_the_numbers(self):
        fleet = mixed_fleet()
        self.assertEqual(fleet.kept_ways([1, 3]), [[4, 5], [0, 3]])
        self.assertEqual(fleet.kept_ways([3, 0, 1]), [[0, 3], [], [4, 5]])
        self.assertEqual(fleet.kept_ways([]), [])

    def test_the_lists_are_new(self):
        fleet = mixed_fleet()
        wanted = rows_of(fleet.twin())
        numbers = [3, 1]
        for way in fleet.kept_ways(numbers):
            way.append(99)
        for found in (fleet.closed(), fleet.taken(), fleet.running(), fleet.kept_ways([1]), fleet.aim(1)):
            found.append(99)
        self.assertEqual(rows_of(fleet), wanted)
        self.assertEqual(numbers, [3, 1])
        self.assertEqual(fleet.closed(), [1, 2])
        self.assertEqual(fleet.taken(), [0, 1, 2, 4])
        self.assertEqual(fleet.running(), [1, 3])
        self.assertEqual(fleet.floor.stations, [[0, 4], [3]])


class OrdersTest(unittest.TestCase):
    def test_order_of(self):
        fleet = mixed_fleet()
        self.assertEqual([fleet.order_of(robot) for robot in range(6)], [2, None, None, 1, None, None])
        fleet.orders[2].finish()
        self.assertIsNone(fleet.order_of(0))

    def test_order_of_robot_0_and_order_0(self):
        fleet = Fleet(read_floor(TEXT), robots=2)
        fleet.orders = [Order(0, 1)]
        self.assertIsNone(fleet.order_of(0))
        fleet.orders[0].give(0)
        self.assertEqual((fleet.order_of(0), fleet.order_of(1)), (0, None))
        self.assertEqual((fleet.is_free(0), fleet.is_free(1)), (False, True))

    def test_the_aim_is_the_start_until_the_order_is_loaded(self):
        fleet = mixed_fleet()
        self.assertEqual(fleet.aim(1), [3])
        fleet.orders[1].load()
        self.assertEqual(fleet.aim(1), [0, 4])
        self.assertEqual(fleet.aim(2), [3])
        self.assertEqual(fleet.aim(3), [3])

    def test_is_free(self):
        fleet = mixed_fleet()
        self.assertEqual([fleet.is_free(robot) for robot in range(6)], [False, True, False, False, False, False])
        fleet.orders[2].release()
        fleet.robots[5].broken = False
        self.assertEqual([fleet.is_free(robot) for robot in range(6)], [True, True, False, False, False, True])

    def test_first_open(self):
        fleet = mixed_fleet()
        found = [fleet.first_open()]
        for number in (2, 1, 3):
            fleet.orders[number].finish()
            found.append(fleet.first_open())
        self.assertEqual(found, [1, 1, 3, 4])
        fleet.orders = []
        self.assertEqual(fleet.first_open(), 0)

    def test_an_open_order_with_a_robot_is_open(self):
        fleet = Fleet(read_floor(TEXT), robots=1)
        fleet.orders = [Order(0, 1), Order(0, 1)]
        fleet.orders[0].give(0)
        fleet.orders[0].load()
        self.assertEqual(fleet.first_open(), 0)

    def test_counts(self):
        fleet = mixed_fleet()
        self.assertEqual((fleet.count_broken(), fleet.count_done()), (3, 1))
        fleet.robots[0].broken = True
        fleet.orders[3].finish()
        fleet.orders[1].finish()
        self.assertEqual((fleet.count_broken(), fleet.count_done()), (4, 3))
