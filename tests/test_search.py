"""[17] to [20], search_cut of [24], and clearfloor/search.py in the interface."""

import unittest

from checks import THREE, choices, floors
from clearfloor.floors import floor_of
from clearfloor.maps import read_floor
from clearfloor.search import ahead_table, explore, find_path, next_spots, path_to, search_cut
from clearfloor.ways import ways_home

IN = False
OUT = True

# The cells of this floor are 0 1 2 in the upper row and 3 4 5 in the lower one.
TWO_ROWS = read_floor("..+\n+..")
LINE = floor_of(THREE, [0, 2], [])


class AheadTableTest(unittest.TestCase):
    def test_no_ways(self):
        self.assertEqual(ahead_table([]), {})

    def test_each_cell_has_the_one_before_it(self):
        self.assertEqual(ahead_table([[4, 1, 0], [5], [7, 6]]), {4: None, 1: 4, 0: 1, 5: None, 7: None, 6: 7})


class NextSpotsTest(unittest.TestCase):
    def setUp(self):
        self.table = ahead_table([[4, 1, 0], [5]])

    def check(self, spot, wanted, closed=()):
        self.assertEqual(next_spots(TWO_ROWS, list(closed), self.table, spot), wanted)

    def test_from_into_a_cell_that_is_not_used(self):
        self.check((2, IN), [(2, OUT)])
        self.check((3, IN), [(3, OUT)], closed=[0, 2, 4])

    def test_from_into_a_used_cell(self):
        self.check((1, IN), [(4, OUT)])
        self.check((0, IN), [(1, OUT)])

    def test_from_into_the_first_cell_of_a_way(self):
        self.check((4, IN), [])
        self.check((5, IN), [])

    def test_from_out_of_a_cell_that_is_not_used(self):
        self.check((3, OUT), [(0, IN), (4, IN)])
        self.check((2, OUT), [(1, IN), (5, IN)])

    def test_from_out_of_a_used_cell(self):
        self.check((1, OUT), [(0, IN), (2, IN), (4, IN), (1, IN)])
        self.check((0, OUT), [(1, IN), (3, IN), (0, IN)])

    def test_from_out_of_the_first_cell_of_a_way(self):
        self.check((4, OUT), [(1, IN), (3, IN), (5, IN), (4, IN)])
        self.check((5, OUT), [(2, IN), (4, IN), (5, IN)])

    def test_closed_neighbors(self):
        self.check((1, OUT), [(0, IN), (4, IN), (1, IN)], closed=[3, 2])
        self.check((2, OUT), [(1, IN)], closed=[5])
        self.check((3, OUT), [], closed=[4, 0])
        self.check((5, OUT), [(5, IN)], closed=[2, 4])

    def test_no_ways(self):
        self.assertEqual(next_spots(TWO_ROWS, [], {}, (4, OUT)), [(1, IN), (3, IN), (5, IN)])
        self.assertEqual(next_spots(TWO_ROWS, [], {}, (4, IN)), [(4, OUT)])


class ExploreTest(unittest.TestCase):
    def test_example_of_the_document(self):
        spots, parents = explore(LINE, [], [[1, 0]], [0])
        self.assertEqual(spots, [(0, IN), (1, OUT), (2, IN), (1, IN), (2, OUT)])
        self.assertEqual(parents, [None, 0, 1, 1, 2])

    def test_it_is_a_tuple_of_two_lists(self):
        found = explore(LINE, [], [], [0])
        self.assertIsInstance(found, tuple)
        self.assertEqual([isinstance(part, list) for part in found], [True, True])

    def test_several_starts_twice_the_same_and_closed_ones(self):
        spots, parents = explore(TWO_ROWS, [2], [], [5, 2, 0, 5, 0])
        self.assertEqual(spots, [
            (0, IN), (5, IN), (0, OUT), (5, OUT), (1, IN), (3, IN), (4, IN), (1, OUT), (3, OUT), (4, OUT),
        ])
        self.assertEqual(parents, [None, None, 0, 1, 2, 2, 3, 4, 5, 6])

    def test_more_than_nine_starts_are_ascending_numbers(self):
        floor = floor_of([[] for _ in range(12)], [], [])
        spots, parents = explore(floor, [], [], [11, 2, 10, 9, 0])
        self.assertEqual(spots[:5], [(0, IN), (2, IN), (9, IN), (10, IN), (11, IN)])
        self.assertEqual(parents, [None] * 5 + [0, 1, 2, 3, 4])

    def test_no_starts(self):
        self.assertEqual(explore(TWO_ROWS, [], [[2]], []), ([], []))
        self.assertEqual(explore(TWO_ROWS, [1, 4], [], [4, 1]), ([], []))

    def test_backwards_along_a_kept_way(self):
        # Out of a used cell the neighbors come first, and then into the cell itself.
        spots, parents = explore(TWO_ROWS, [], [[4, 1, 2]], [5])
        self.assertEqual(spots, [
            (5, IN), (5, OUT), (2, IN), (4, IN), (1, OUT), (0, IN), (1, IN), (0, OUT), (4, OUT), (3, IN), (3, OUT),
        ])
        self.assertEqual(parents, [None, 0, 1, 1, 2, 4, 4, 5, 6, 7, 9])

    def test_the_list_by_its_rule(self):
        for floor in floors():
            for cells in choices(range(floor.size), 2):
                ways = ways_home(floor, [], cells)
                for start in range(floor.size):
                    if ways is not None:
                        self.check_rule(floor, [], ways, [start, floor.size - 1])

    def test_the_list_by_its_rule_with_closed_cells(self):
        for floor in floors():
            for closed in range(floor.size):
                ways = ways_home(floor, [closed], [(closed + 1) % floor.size])
                self.check_rule(floor, [closed], ways or [], list(range(floor.size)))

    def check_rule(self, floor, closed, ways, starts):
        table = ahead_table(ways)
        spots = [(cell, IN) for cell in range(floor.size) if cell in starts and cell not in closed]
        parents = [None] * len(spots)
        at = 0
        while at < len(spots):
            for spot in next_spots(floor, closed, table, spots[at]):
                if spot not in spots:
                    spots.append(spot)
                    parents.append(at)
            at += 1
        self.assertEqual(explore(floor, closed, ways, starts), (spots, parents))


class PathTest(unittest.TestCase):
    def test_path_to(self):
        spots, parents = explore(LINE, [], [[1, 0]], [0])
        self.assertEqual(path_to(spots, parents, 0), [(0, IN)])
        self.assertEqual(path_to(spots, parents, 3), [(0, IN), (1, OUT), (1, IN)])
        self.assertEqual(path_to(spots, parents, 4), [(0, IN), (1, OUT), (2, IN), (2, OUT)])

    def test_path_to_begins_at_any_first_spot(self):
        spots, parents = explore(TWO_ROWS, [2], [], [0, 5])
        self.assertEqual(path_to(spots, parents, 1), [(5, IN)])
        self.assertEqual(path_to(spots, parents, 9), [(5, IN), (5, OUT), (4, IN), (4, OUT)])

    def test_path_to_leaves_its_lists(self):
        spots = [(0, IN), (0, OUT), (1, IN)]
        parents = [None, 0, 1]
        path_to(spots, parents, 2).reverse()
        self.assertEqual((spots, parents), ([(0, IN), (0, OUT), (1, IN)], [None, 0, 1]))

    def test_example_of_the_document(self):
        path = find_path(LINE, [], [[1, 0]], [0], LINE.doors)
        self.assertEqual(path, [(0, IN), (1, OUT), (2, IN), (2, OUT)])

    def test_a_start_that_is_a_goal(self):
        self.assertEqual(find_path(TWO_ROWS, [], [], [2], [2]), [(2, IN), (2, OUT)])

    def test_the_first_spot_of_the_list_counts_not_the_first_goal(self):
        self.assertEqual(find_path(TWO_ROWS, [], [], [0], [5, 3, 1]), [(0, IN), (0, OUT), (1, IN), (1, OUT)])
        self.assertEqual(find_path(TWO_ROWS, [], [], [5, 3], [4, 3]), [(3, IN), (3, OUT)])

    def test_into_a_goal_is_not_out_of_it(self):
        self.assertIsNone(find_path(LINE, [], [[1, 0]], [1], [0, 1, 2]))
        self.assertIsNone(find_path(LINE, [], [[1, 2]], [0, 1], [1]))
        self.assertIsNone(find_path(LINE, [], [[1, 2]], [0, 1], [2]))

    def test_none(self):
        self.assertIsNone(find_path(LINE, [1], [], [0], [2]))
        self.assertIsNone(find_path(LINE, [0], [], [0], [0, 1, 2]))
        self.assertIsNone(find_path(LINE, [2], [], [0], [2]))
        self.assertIsNone(find_path(LINE, [], [], [], [0, 1, 2]))
        self.assertIsNone(find_path(LINE, [], [], [0, 1, 2], []))

    def test_paths_by_their_rule(self):
        for floor in floors():
            for cells in choices(range(floor.size), 2):
                ways = ways_home(floor, [], cells)
                for start in range(floor.size):
                    if ways is not None:
                        self.check_rule(floor, ways, start)

    def check_rule(self, floor, ways, start):
        spots, parents = explore(floor, [], ways, [start])
        indexes = [at for at, spot in enumerate(spots) if spot[1] and spot[0] in floor.doors]
        wanted = None
        if indexes:
            wanted = path_to(spots, parents, min(indexes))
            self.assertEqual((wanted[0], wanted[-1]), ((start, IN), spots[min(indexes)]))
            for spot, after in zip(wanted, wanted[1:]):
                self.assertIn(after, next_spots(floor, [], ahead_table(ways), spot))
        self.assertEqual(find_path(floor, [], ways, [start], floor.doors), wanted)


class SearchCutTest(unittest.TestCase):
    def test_example_of_the_document(self):
        self.assertEqual(search_cut(floor_of(THREE, [2], []), [], [[1, 2]], [0, 1]), [1])

    def test_into_but_not_out_of(self):
        self.assertEqual(search_cut(LINE, [], [[1, 0]], [0]), [0])
        self.assertEqual(search_cut(LINE, [], [[0], [2]], [2, 1, 0]), [0, 2])
        self.assertEqual(search_cut(LINE, [], [], [1]), [])
        self.assertEqual(search_cut(LINE, [], [[1]], []), [])

    def test_ascending(self):
        star = floor_of([[11]] * 11 + [list(range(11))], [], [])
        ways = [[10], [2], [9], [0]]
        self.assertEqual(search_cut(star, [], ways, [11]), [0, 2, 9, 10])

    def test_closed_cells_are_not_in_it(self):
        self.assertEqual(search_cut(TWO_ROWS, [4], [[1, 2]], [0]), [1])
        self.assertEqual(search_cut(TWO_ROWS, [1], [], [1]), [])


class ListsTest(unittest.TestCase):
    def test_lists_that_are_passed_in_stay(self):
        closed, ways, starts, goals, table = [5, 3], [[4, 1], [2]], [2, 0, 0], [2, 1], {4: None, 1: 4, 2: None}
        for _ in range(2):
            ahead_table(ways)[9] = 9
            next_spots(TWO_ROWS, closed, table, (1, OUT)).append(9)
            next_spots(TWO_ROWS, closed, table, (0, OUT)).append(9)
            spots, parents = explore(TWO_ROWS, closed, ways, starts)
            spots.append(9)
            parents.append(9)
            find_path(TWO_ROWS, closed, ways, starts, goals)
            search_cut(TWO_ROWS, closed, ways, starts).append(9)
            self.assertEqual(closed, [5, 3])
            self.assertEqual(ways, [[4, 1], [2]])
            self.assertEqual((starts, goals), ([2, 0, 0], [2, 1]))
            self.assertEqual(table, {4: None, 1: 4, 2: None})
        self.assertEqual(TWO_ROWS.near, read_floor("..+\n+..").near)

    def test_two_calls_agree(self):
        ways = [[4, 1, 2]]
        first = explore(TWO_ROWS, [], ways, [5])
        first[0].append(9)
        first[1].append(9)
        again = explore(TWO_ROWS, [], ways, [5])
        self.assertEqual((first[0][:-1], first[1][:-1]), again)
        path = find_path(TWO_ROWS, [], ways, [5], TWO_ROWS.doors)
        wanted = list(path)
        path.append(9)
        self.assertEqual(find_path(TWO_ROWS, [], ways, [5], TWO_ROWS.doors), wanted)
        cut = search_cut(TWO_ROWS, [], [[5]], [5])
        cut.append(9)
        self.assertEqual(search_cut(TWO_ROWS, [], [[5]], [5]), [5])
        table = ahead_table(ways)
        table[9] = 9
        self.assertEqual(ahead_table(ways), {4: None, 1: 4, 2: 1})
