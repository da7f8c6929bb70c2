"""[16], [66], [67] and clearfloor/papers.py in the interface."""

import itertools
import unittest

import checks
from checks import THREE, choices, small_floors
from clearfloor.fleet import Robot
from clearfloor.floors import floor_of
from clearfloor.papers import (
    are_apart,
    are_home,
    cuts_off,
    is_linked,
    is_safe,
    is_served,
    is_way,
    reached_cells,
    share_cells,
)
from clearfloor.runs import drive
from clearfloor.ways import most_ways, ways_home
from walks import STAGES, made, rows_of, walks

LINE = floor_of(THREE, [0, 2], [])
# The cells of CROSS: 0 is A, 1 a door, 2 the middle, 3 is B and a door; the depot is 4.
CROSS = "#A#\n+.b"
# The cells of a ring: 0 1 2 above, 5 4 3 below it.
RING = floor_of([[1, 5], [0, 2], [1, 3], [2, 4], [3, 5], [0, 4]], [0, 3], [])
A, B = 0, 1


class IsLinkedTest(unittest.TestCase):
    def test_linked(self):
        for cells in ([], [1], [0, 1], [2, 1, 0], [0, 1, 0, 1, 2], [1, 2, 1]):
            self.assertIs(is_linked(LINE, cells), True, cells)

    def test_not_linked(self):
        for cells in ([0, 2], [0, 0], [0, 1, 1], [0, 1, 2, 0], [2, 0, 1], [1, 0, 2]):
            self.assertIs(is_linked(LINE, cells), False, cells)


class ShareCellsTest(unittest.TestCase):
    def test_shared(self):
        for cells in ([0, 0], [1, 2, 1], [5, 4, 3, 4], [7, 7, 7]):
            self.assertIs(share_cells(cells), True, cells)

    def test_not_shared(self):
        for cells in ([], [0], [0, 1], [2, 1, 0], [9, 3, 5]):
            self.assertIs(share_cells(cells), False, cells)


class IsWayTest(unittest.TestCase):
    def test_ways(self):
        self.assertIs(is_way(LINE, [], [0], [2], [0, 1, 2]), True)
        self.assertIs(is_way(LINE, [], [1, 0], [0, 2], [1, 2]), True)
        self.assertIs(is_way(LINE, [], [2], [2], [2]), True)
        self.assertIs(is_way(LINE, [0], [1], [2], [1, 2]), True)
        self.assertIs(is_way(LINE, [], [0, 2, 0], [2, 2], [0, 1, 2]), True)
        self.assertIs(is_way(RING, [1], [0], [3], [0, 5, 4, 3]), True)

    def test_it_may_pass_sources_and_goals(self):
        self.assertIs(is_way(LINE, [], [0, 1], [1, 2], [0, 1, 2]), True)

    def test_the_empty_list(self):
        self.assertIs(is_way(LINE, [], [0], [0], []), False)
        self.assertIs(is_way(LINE, [], [], [], []), False)

    def test_it_begins_at_a_source_and_ends_at_a_goal(self):
        self.assertIs(is_way(LINE, [], [1], [2], [0, 1, 2]), False)
        self.assertIs(is_way(LINE, [], [0], [1], [0, 1, 2]), False)
        self.assertIs(is_way(LINE, [], [2], [0], [0, 1, 2]), False)
        self.assertIs(is_way(LINE, [], [], [2], [2]), False)
        self.assertIs(is_way(LINE, [], [2], [], [2]), False)

    def test_closed_cells(self):
        self.assertIs(is_way(LINE, [1], [0], [2], [0, 1, 2]), False)
        self.assertIs(is_way(LINE, [0], [0], [2], [0, 1, 2]), False)
        self.assertIs(is_way(LINE, [2, 2], [0], [2], [0, 1, 2]), False)
        self.assertIs(is_way(LINE, [2], [2], [2], [2]), False)

    def test_no_cell_twice(self):
        self.assertIs(is_way(LINE, [], [0], [2], [0, 1, 0, 1, 2]), False)
        self.assertIs(is_way(LINE, [], [1], [1], [1, 0, 1]), False)
        self.assertIs(is_way(RING, [], [0], [0], [0, 1, 2, 3, 4, 5, 0]), False)

    def test_linked(self):
        self.assertIs(is_way(LINE, [], [0], [2], [0, 2]), False)
        self.assertIs(is_way(RING, [], [0], [3], [0, 1, 3]), False)

    def test_all_lists_of_small_floors(self):
        for floor in small_floors():
            for many in range(4):
                for way in itertools.product(range(floor.size), repeat=many):
                    for closed, goals in (([], [0]), ([1, 1], floor.doors), (range(1), range(floor.size))):
                        found = is_way(floor, list(closed), [0, 2, 1, 2], list(goals), list(way))
                        self.assertEqual(found, checks.is_way(floor, closed, [0, 1, 2], goals, way))


class AreApartTest(unittest.TestCase):
    def test_apart(self):
        for ways in ([], [[0, 1]], [[0], [1]], [[2, 1], [0], [5, 4]], [[]], [[], []]):
            self.assertIs(are_apart(ways), True, ways)

    def test_not_apart(self):
        for ways in ([[0], [0]], [[0, 1], [2, 1]], [[0, 1], [3], [4, 0]], [[1, 2], [2, 3], [4]], [[5], [4], [5]]):
            self.assertIs(are_apart(ways), False, ways)


class AreHomeTest(unittest.TestCase):
    def test_ways_home(self):
        self.assertIs(are_home(LINE, [], [], []), True)
        self.assertIs(are_home(LINE, [], [0, 1], [[0], [1, 2]]), True)
        self.assertIs(are_home(LINE, [], [1, 0], [[1, 2], [0]]), True)
        self.assertIs(are_home(LINE, [0], [1], [[1, 2]]), True)
        self.assertIs(are_home(RING, [], [1, 2], [[1, 0], [2, 3]]), True)

    def test_one_from_each_in_their_order(self):
        self.assertIs(are_home(LINE, [], [1, 0], [[0], [1, 2]]), False)
        self.assertIs(are_home(LINE, [], [0, 1], [[0]]), False)
        self.assertIs(are_home(LINE, [], [0], [[0], [1, 2]]), False)
        self.assertIs(are_home(LINE, [], [], [[0]]), False)
        self.assertIs(are_home(LINE, [], [0], []), False)
        self.assertIs(are_home(LINE, [], [0, 0], [[0], [0]]), False)

    def test_each_is_a_way_to_a_door(self):
        self.assertIs(are_home(LINE, [], [0, 1], [[0], [1]]), False)
        self.assertIs(are_home(LINE, [], [0, 1], [[0], []]), False)
        self.assertIs(are_home(LINE, [2], [0, 1], [[0], [1, 2]]), False)
        self.assertIs(are_home(RING, [], [1], [[1, 3]]), False)
        self.assertIs(are_home(LINE, [], [1], [[1, 0, 1, 2]]), False)

    def test_apart(self):
        self.assertIs(are_home(LINE, [], [0, 1], [[0], [1, 0]]), False)
        self.assertIs(are_home(RING, [], [1, 2], [[1, 0], [2, 1, 0]]), False)

    def test_ways_that_the_program_finds(self):
        for floor in small_floors():
            for closed in choices(range(floor.size), 1):
                for cells in choices(range(floor.size), 2):
                    ways = ways_home(floor, closed, cells)
                    if ways is not None:
                        self.assertIs(are_home(floor, closed, cells, ways), True)
                        self.assertIs(are_home(floor, closed + cells[:1], cells, ways), not cells)


class ReachedCellsTest(unittest.TestCase):
    def test_examples(self):
        self.assertEqual(reached_cells(LINE, [], [1], []), [0, 1, 2])
        self.assertEqual(reached_cells(LINE, [1], [2], []), [2])
        self.assertEqual(reached_cells(LINE, [], [2], [1]), [2])
        self.assertEqual(reached_cells(LINE, [0], [2], []), [1, 2])
        self.assertEqual(reached_cells(LINE, [0], [1], [2]), [1])
        self.assertEqual(reached_cells(RING, [1], [0], [4]), [0, 5])
        self.assertEqual(reached_cells(RING, [1], [4], []), [0, 2, 3, 4, 5])

    def test_sources_that_are_closed_or_barred(self):
        self.assertEqual(reached_cells(LINE, [0], [0], []), [])
        self.assertEqual(reached_cells(LINE, [], [0], [0]), [])
        self.assertEqual(reached_cells(LINE, [1], [0, 1], []), [0])
        self.assertEqual(reached_cells(LINE, [], [1, 2], [1]), [2])

    def test_empty_lists_and_cells_given_twice(self):
        self.assertEqual(reached_cells(LINE, [], [], []), [])
        self.assertEqual(reached_cells(LINE, [1, 1], [2, 0, 2, 0], [1, 1]), [0, 2])
        self.assertEqual(reached_cells(LINE, [], [2, 2, 1, 1], [0, 0]), [1, 2])

    def test_the_depot_does_not_lead_on(self):
        self.assertEqual(reached_cells(floor_of([[], [2], [1]], [0, 1], []), [], [0], []), [0])

    def test_small_floors_by_the_words(self):
        for floor in small_floors():
            for closed in choices(range(floor.size), 1):
                for barred in choices(range(floor.size), 2):
                    for sources in choices(range(floor.size), 2):
                        found = reached_cells(floor, closed, sources[::-1], barred)
                        self.assertEqual(found, sorted(checks.reached(floor, sources, closed + barred)))


class CutsOffTest(unittest.TestCase):
    def test_examples(self):
        self.assertIs(cuts_off(LINE, [], [0], [2], [1]), True)
        self.assertIs(cuts_off(LINE, [], [0], [2], []), False)
        self.assertIs(cuts_off(LINE, [1], [0], [2], []), True)
        self.assertIs(cuts_off(RING, [], [0], [3], [1]), False)
        self.assertIs(cuts_off(RING, [], [0], [3], [1, 4]), True)
        self.assertIs(cuts_off(RING, [5], [0], [3], [2, 2]), True)

    def test_cuts_of_sources_and_goals(self):
        self.assertIs(cuts_off(LINE, [], [0, 1], [2], [0, 1]), True)
        self.assertIs(cuts_off(LINE, [], [0, 1], [2], [0]), False)
        self.assertIs(cuts_off(LINE, [], [0], [2], [2]), True)
        self.assertIs(cuts_off(LINE, [], [1], [0, 2], [2]), False)

    def test_a_source_that_is_a_goal(self):
        self.assertIs(cuts_off(LINE, [], [1], [1], [0, 2]), False)
        self.assertIs(cuts_off(LINE, [], [1], [1], [1]), True)
        self.assertIs(cuts_off(LINE, [1], [1], [1], []), True)

    def test_empty_lists(self):
        self.assertIs(cuts_off(LINE, [], [], [0, 1, 2], []), True)
        self.assertIs(cuts_off(LINE, [], [0, 1, 2], [], []), True)

    def test_cuts_of_small_floors(self):
        for floor in small_floors():
            for sources in choices(range(floor.size), 2):
                _, nearest = most_ways(floor, [], sources, floor.doors)
                self.assertIs(cuts_off(floor, [], sources, floor.doors, nearest), True)
                for cut in choices(range(floor.size), 2):
                    wanted = checks.cuts_off(floor, [], sources, floor.doors, cut)
                    self.assertIs(cuts_off(floor, [], sources, floor.doors, cut), wanted)
                    if len(cut) < len(nearest):
                        self.assertIs(wanted, False)


class IsSafeTest(unittest.TestCase):
    def check(self, robots, wanted):
        fleet = made(CROSS, robots, [(A, B, None, False)])
        before = rows_of(fleet)
        self.assertIs(is_safe(fleet), wanted, robots)
        self.assertEqual(rows_of(fleet), before)

    def test_safe(self):
        self.check([], True)
        self.check([(4,), (4,), (4, True)], True)
        self.check([(2, False, [2, 1]), (4,), (3, False, [3])], True)
        self.check([(0, False, [0, 2, 3]), (1, True), (4, True)], True)
        self.check([(0, True), (2, True), (3, True)], True)

    def test_two_robots_on_one_cell(self):
        self.check([(0, True), (0, True)], False)
        self.check([(1, False, [1]), (1, False, [1])], False)
        self.check([(2, False, [2, 3]), (2, False, [2, 1])], False)
        self.check([(2, True), (4,), (2, False, [2, 3])], False)

    def test_no_way(self):
        self.check([(1, False, [])], False)
        self.check([(4,), (1, False, [1]), (3,)], False)

    def test_a_way_that_begins_at_another_cell(self):
        self.check([(2, False, [1])], False)
        self.check([(2, False, [3]), (3, False, [2, 1])], False)
        self.check([(1, False, [2, 3])], False)

    def test_a_way_that_does_not_end_at_a_door(self):
        self.check([(2, False, [2])], False)
        self.check([(1, False, [1, 2])], False)

    def test_a_way_that_is_not_linked(self):
        self.check([(0, False, [0, 1])], False)
        self.check([(0, False, [0, 2, 0, 2, 1])], False)

    def test_a_way_over_a_broken_robot(self):
        self.check([(0, False, [0, 2, 1]), (2, True)], False)
        self.check([(0, False, [0, 2, 1]), (1, True)], False)
        self.check([(0, False, [0, 2, 1]), (3, True)], True)

    def test_ways_that_are_not_apart(self):
        self.check([(0, False, [0, 2, 1]), (1, False, [1])], False)
        self.check([(3, False, [3, 2, 1]), (1, False, [1])], False)
        self.check([(3, False, [3]), (4,), (0, False, [0, 2, 3])], False)

    def test_orders_do_not_matter(self):
        fleet = made(CROSS, [(1, False, [1])], [(A, B, None, True), (A, B, 0, False), (A, B, 0, False)])
        self.assertIs(is_safe(fleet), True)


class IsServedTest(unittest.TestCase):
    def check(self, robots, orders, wanted, done=()):
        fleet = made(CROSS, robots, orders)
        for number in done:
            fleet.orders[number].done = True
        before = rows_of(fleet)
        self.assertIs(is_served(fleet), wanted, orders)
        self.assertEqual(rows_of(fleet), before)

    def test_served(self):
        self.check([(4,)], [], True)
        self.check([(4,), (4,)], [(A, B, None, False), (B, A, 1, True), (A, B, 0, False)], True)
        self.check([(4, True), (2, True)], [(A, B, None, False)], True)
        self.check([(4,)], [(A, B, None, False), (A, B, 0, True)], True, done=[0])

    def test_an_order_without_a_robot_is_loaded(self):
        self.check([(4,)], [(A, B, None, True)], False)
        self.check([(4,)], [(A, B, 0, True), (A, B, None, True)], False)
        self.check([(4,)], [(A, B, None, True)], False, done=[0])

    def test_an_order_that_is_done_has_a_robot(self):
        self.check([(4,)], [(A, B, 0, False)], False, done=[0])
        self.check([(4,), (4,)], [(A, B, 1, False), (A, B, 0, False)], False, done=[1])

    def test_a_robot_that_does_not_run(self):
        self.check([(4, True)], [(A, B, 0, False)], False)
        self.check([(4,), (2, True)], [(A, B, 0, False), (A, B, 1, True)], False)
        self.check([(4,), (2, True)], [(A, B, 0, False)], True)

    def test_one_robot_with_two_orders(self):
        self.check([(4,)], [(A, B, 0, False), (B, A, 0, False)], False)
        self.check([(4,), (4,)], [(A, B, 0, False), (B, A, 1, False), (A, B, 0, True)], False)

    def test_places_and_ways_do_not_matter(self):
        fleet = made(CROSS, [(2,), (2,)], [(A, B, 0, False), (B, A, 1, False)])
        self.assertIs(is_served(fleet), True)
        self.assertIs(is_safe(fleet), False)


class EventsTest(unittest.TestCase):
    def test_behind_events_from_a_new_fleet(self):
        for _, _, fleet in walks(seeds=2):
            self.assertIs(is_safe(fleet), True)
            self.assertIs(is_served(fleet), True)

    def test_behind_runs(self):
        for text in STAGES:
            for robots, most in ((1, 1), (3, 1), (4, 4)):
                fleet = made(text, [(made(text, []).floor.depot,)] * robots)
                for seed in range(8):
                    _, fleet = drive(fleet, seed=seed, most=most, count=20)
                    self.assertIs(is_safe(fleet), True)
                    self.assertIs(is_served(fleet), True)

    def test_each_way_to_spoil_a_robot_of_such_a_fleet(self):
        spoiled = 0
        for _, _, fleet in walks(seeds=1):
            for number in fleet.running():
                way = fleet.robots[number].way
                for other in ([], way[1:], way[:-1], way + [way[0]], [way[0]] + way):
                    twin = fleet.twin()
                    twin.robots[number] = Robot(way[0], False, other)
                    spoiled += 1
                    # A way may end at an earlier door; all other changes spoil it.
                    shorter = len(way) > 1 and other == way[:-1] and other[-1] in fleet.floor.doors
                    self.assertIs(is_safe(twin), shorter, (way, other))
        self.assertGreater(spoiled, 500)


class ListsTest(unittest.TestCase):
    def test_lists_that_are_passed_in_stay(self):
        closed, sources, goals, cut, ways = [1, 1], [4, 0, 4], [3, 2], [5, 5], [[0, 5], [2]]
        for _ in range(2):
            reached_cells(RING, closed, sources, cut).append(9)
            cuts_off(RING, closed, sources, goals, cut)
            is_way(RING, closed, sources, goals, cut)
            is_linked(RING, closed)
            share_cells(sources)
            are_apart(ways)
            are_home(RING, closed, goals, ways)
            self.assertEqual((closed, sources, goals, cut), ([1, 1], [4, 0, 4], [3, 2], [5, 5]))
            self.assertEqual(ways, [[0, 5], [2]])
            self.assertEqual(reached_cells(RING, closed, sources, cut), [0, 2, 3, 4])
        self.assertEqual(RING.near[0], [1, 5])
