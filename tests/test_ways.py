"""[16], [23] to [25], what [44] says of closing one cell, and clearfloor/ways.py in the interface."""

import itertools
import unittest

from checks import THREE, are_apart, are_home, choices, cuts_off, floors, is_way, reached, small_floors
from clearfloor.floors import floor_of
from clearfloor.maps import read_floor
from clearfloor.ways import add_way, most_ways, ways_home

LINE = floor_of(THREE, [0, 2], [])
DOOR_AT_END = floor_of(THREE, [2], [])


class AddWayTest(unittest.TestCase):
    def test_example_of_the_document(self):
        self.assertEqual(add_way(LINE, [], [[1, 0]], 0), [[1, 2], [0]])

    def test_the_first_way(self):
        self.assertEqual(add_way(LINE, [], [], 0), [[0]])
        self.assertEqual(add_way(LINE, [], [], 1), [[1, 0]])
        self.assertEqual(add_way(DOOR_AT_END, [], [], 0), [[0, 1, 2]])
        self.assertEqual(add_way(LINE, [0], [], 1), [[1, 2]])

    def test_the_new_cell_comes_last(self):
        floor = read_floor("+..+\n....\n+..+")
        ways = [[5, 4, 0], [2, 3]]
        self.assertEqual(add_way(floor, [], ways, 1)[2][0], 1)
        self.assertEqual([way[0] for way in add_way(floor, [], ways, 1)], [5, 2, 1])

    def test_kept_ways_that_are_not_in_the_way_stay(self):
        self.assertEqual(add_way(read_floor("+.\n..\n+."), [], [[3, 2, 0]], 5), [[3, 2, 0], [5, 4]])

    def test_a_cell_on_a_kept_way(self):
        floor = read_floor("+...\n.###\n+###")
        self.assertEqual(add_way(floor, [], [[1, 0, 4, 5]], 0), None)
        self.assertEqual(add_way(floor, [], [[4, 0]], 0), [[4, 5], [0]])

    def test_links_against_each_other_are_dropped(self):
        floor = floor_of([[1], [0, 2, 5], [1, 3], [2, 6], [6], [1], [3, 4]], [5, 6], [])
        self.assertEqual(add_way(floor, [], [[0, 1, 2, 3, 6]], 4), [[0, 1, 5], [4, 6]])

    def test_none(self):
        self.assertIsNone(add_way(DOOR_AT_END, [], [[1, 2]], 0))
        self.assertIsNone(add_way(DOOR_AT_END, [1], [], 0))
        self.assertIsNone(add_way(DOOR_AT_END, [2], [], 0))
        self.assertIsNone(add_way(DOOR_AT_END, [], [[2]], 1))
        self.assertIsNone(add_way(LINE, [], [[0], [2]], 1))
        self.assertIsNone(add_way(floor_of([[]], [], []), [], [], 0))


class WaysHomeTest(unittest.TestCase):
    def test_no_cells(self):
        self.assertEqual(ways_home(LINE, [], []), [])
        self.assertEqual(ways_home(LINE, [0, 1, 2], []), [])

    def test_examples(self):
        self.assertEqual(ways_home(LINE, [], [1, 0]), [[1, 2], [0]])
        self.assertEqual(ways_home(LINE, [], [0, 1]), [[0], [1, 2]])
        self.assertEqual(ways_home(LINE, [], [2, 1]), [[2], [1, 0]])
        self.assertEqual(ways_home(LINE, [0], [1]), [[1, 2]])

    def test_none(self):
        self.assertIsNone(ways_home(LINE, [], [0, 1, 2]))
        self.assertIsNone(ways_home(LINE, [0], [1, 2]))
        self.assertIsNone(ways_home(LINE, [0], [0]))
        self.assertIsNone(ways_home(DOOR_AT_END, [], [0, 1]))
        self.assertIsNone(ways_home(DOOR_AT_END, [], [1, 1]))

    def test_a_later_cell_that_has_no_way_spoils_all(self):
        self.assertIsNone(ways_home(floor_of([[], [], []], [0, 2], []), [], [0, 1, 2]))

    def test_each_order_of_the_cells(self):
        for floor in small_floors():
            for closed in choices(range(floor.size), 1):
                for cells in choices(range(floor.size), 3):
                    self.check_orders(floor, closed, cells)

    def check_orders(self, floor, closed, cells):
        # The most ways from the cells are proved by their cut, below.
        ways, _ = most_ways(floor, closed, cells, floor.doors)
        for row in itertools.permutations(cells):
            found = ways_home(floor, closed, list(row))
            self.assertEqual(found is not None, len(ways) == len(cells), (floor.near, closed, row))
            if found is not None:
                self.assertTrue(are_home(floor, closed, row, found), (floor.near, closed, row, found))

    def test_it_adds_one_way_after_another(self):
        for floor in small_floors():
            for cells in choices(range(floor.size), 3):
                ways = []
                for cell in reversed(cells):
                    ways = None if ways is None else add_way(floor, [], ways, cell)
                self.assertEqual(ways_home(floor, [], cells[::-1]), ways)


class AddedWaysTest(unittest.TestCase):
    def test_ways_home_stay_apart_or_there_is_a_cut(self):
        for floor in floors():
            for cells in choices(range(floor.size), 2):
                ways = ways_home(floor, [], cells)
                for cell in range(floor.size):
                    if ways is not None and cell not in cells:
                        self.check_more(floor, ways, cells, cell)

    def check_more(self, floor, ways, cells, cell):
        found = add_way(floor, [], ways, cell)
        if found is not None:
            self.assertTrue(are_home(floor, [], cells + [cell], found), (floor.near, ways, cell, found))
        else:
            _, cut = most_ways(floor, [], cells + [cell], floor.doors)
            self.assertLessEqual(len(cut), len(ways))
            self.assertTrue(cuts_off(floor, [], cells + [cell], floor.doors, cut))


class MostWaysTest(unittest.TestCase):
    def test_example_of_the_document(self):
        self.assertEqual(most_ways(DOOR_AT_END, [], [0, 1], [2]), ([[1, 2]], [1]))
        self.assertEqual(most_ways(DOOR_AT_END, [], [1, 0], [2]), ([[1, 2]], [1]))

    def test_it_is_a_tuple_of_two_lists(self):
        found = most_ways(LINE, [], [1], [0, 2])
        self.assertIsInstance(found, tuple)
        self.assertEqual([isinstance(part, list) for part in found], [True, True])

    def test_sources_that_are_goals(self):
        self.assertEqual(most_ways(LINE, [], [2, 0], [0, 2]), ([[0], [2]], [0, 2]))
        self.assertEqual(most_ways(LINE, [], [0, 1, 2], [2, 1, 0]), ([[0], [1], [2]], [0, 1, 2]))

    def test_no_sources_and_no_goals(self):
        self.assertEqual(most_ways(LINE, [], [], [0, 2]), ([], []))
        self.assertEqual(most_ways(LINE, [], [0, 1], []), ([], []))
        self.assertEqual(most_ways(LINE, [], [], []), ([], []))

    def test_closed_sources_and_closed_goals(self):
        self.assertEqual(most_ways(LINE, [1], [1], [0, 2]), ([], []))
        self.assertEqual(most_ways(LINE, [0], [0, 1], [0, 2]), ([[1, 2]], [1]))
        self.assertEqual(most_ways(DOOR_AT_END, [2], [0, 1], [2]), ([], []))
        self.assertEqual(most_ways(LINE, [1], [0], [2]), ([], []))

    def test_the_nearest_of_several_cuts(self):
        row = floor_of([[1], [0, 2], [1, 3], [2]], [3], [])
        self.assertEqual(most_ways(row, [], [0], [3]), ([[0, 1, 2, 3]], [0]))
        self.assertEqual(most_ways(row, [], [0, 1], [3]), ([[1, 2, 3]], [1]))
        self.assertEqual(most_ways(row, [], [0, 1, 3], [3]), ([[3]], [3]))
        self.assertEqual(most_ways(row, [], [2, 0], [3]), ([[2, 3]], [2]))

    def test_a_later_way_changes_an_earlier_one(self):
        # The first search finds 0 1 2 3; the second one comes from 4 to 2 and runs back to 1.
        near = [[1], [0, 2, 7], [1, 3, 6], [2], [5], [4, 6], [2, 5], [1, 8], [7, 9], [8]]
        ways, cut = most_ways(floor_of(near, [], []), [], [4, 0], [9, 3])
        self.assertEqual(ways, [[0, 1, 7, 8, 9], [4, 5, 6, 2, 3]])
        self.assertEqual(cut, [0, 4])

    def test_most_ways_and_cuts_of_many_floors(self):
        for floor in floors():
            for closed in choices(range(floor.size), 1):
                for sources in choices(range(floor.size), 2) + [list(range(floor.size))]:
                    self.check_most(floor, closed, sources, floor.doors)
                    self.check_most(floor, closed, floor.doors, sources)

    def check_most(self, floor, closed, sources, goals):
        ways, cut = most_ways(floor, closed, sources, goals)
        told = (floor.near, closed, sources, goals, ways, cut)
        self.assertTrue(all(is_way(floor, closed, sources, goals, way) for way in ways), told)
        self.assertTrue(are_apart(ways), told)
        self.assertEqual(cut, sorted(set(cut)), told)
        # A cut of as many cells as there are ways proves that no more ways can be apart.
        self.assertEqual(len(cut), len(ways), told)
        self.assertTrue(cuts_off(floor, closed, sources, goals, cut), told)
        self.assertTrue(all(len([cell for cell in way if cell in cut]) == 1 for way in ways), told)

    def test_no_other_cut_is_nearer(self):
        for floor in small_floors():
            for closed in choices(range(floor.size), 1):
                for sources in choices(range(floor.size), 3):
                    self.check_nearest(floor, closed, sources)

    def check_nearest(self, floor, closed, sources):
        ways, cut = most_ways(floor, closed, sources, floor.doors)
        cells = [cell for cell in range(floor.size) if cell not in closed]
        own = reached(floor, sources, closed + cut)
        for other in itertools.combinations(cells, len(ways)):
            if cuts_off(floor, closed, sources, floor.doors, other):
                self.assertLessEqual(own, reached(floor, sources, closed + list(other)))

    def test_closing_one_cell_lowers_them_by_at_most_one(self):
        for floor in floors():
            for sources in choices(range(floor.size), 2) + [list(range(floor.size))]:
                before = len(most_ways(floor, [], sources, floor.doors)[0])
                for cell in range(floor.size):
                    behind = len(most_ways(floor, [cell], sources, floor.doors)[0])
                    self.assertIn(behind, (before, before - 1))

    def test_closing_one_more_cell(self):
        floor = read_floor("+++\n...\n...")
        sources = [6, 7, 8]
        closed = []
        found = []
        for cell in (1, 3, 8):
            closed.append(cell)
            found.append(len(most_ways(floor, closed, sources, floor.doors)[0]))
        self.assertEqual(found, [2, 1, 1])


class ListsTest(unittest.TestCase):
    def test_lists_that_are_passed_in_stay(self):
        floor = read_floor("+..+\n....\n+..+")
        closed, ways, cells, goals = [9, 7], [[5, 4, 0], [2, 3]], [6, 1, 5], [8, 0, 3]
        for _ in range(2):
            for way in add_way(floor, closed, ways, 1):
                way.append(99)
            kept, cut = most_ways(floor, closed, cells, goals)
            kept[0].append(99)
            cut.append(99)
            ways_home(floor, closed, cells)[0].append(99)
            self.assertEqual(closed, [9, 7])
            self.assertEqual(ways, [[5, 4, 0], [2, 3]])
            self.assertEqual((cells, goals), ([6, 1, 5], [8, 0, 3]))
        self.assertEqual(floor.doors, [0, 3, 8, 11])
        self.assertEqual(floor.near, read_floor("+..+\n....\n+..+").near)

    def test_two_calls_agree(self):
        for _ in range(2):
            ways, cut = most_ways(DOOR_AT_END, [], [0, 1], [2])
            self.assertEqual((ways, cut), ([[1, 2]], [1]))
            ways[0].append(9)
            cut.append(9)
            found = add_way(LINE, [], [[1, 0]], 0)
            self.assertEqual(found, [[1, 2], [0]])
            found[0].append(9)
            home = ways_home(LINE, [], [1, 0])
            self.assertEqual(home, [[1, 2], [0]])
            home[1].append(9)
            none = ways_home(LINE, [], [])
            self.assertEqual(none, [])
            none.append(9)

    def test_add_way_shares_no_list_with_the_kept_ways(self):
        floor = read_floor("+.\n..\n+.")
        ways = [[3, 2, 0]]
        add_way(floor, [], ways, 5)[0].append(9)
        self.assertEqual(ways, [[3, 2, 0]])
