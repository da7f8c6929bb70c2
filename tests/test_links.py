"""[21], [22] and clearfloor/links.py in the interface."""

import unittest

from clearfloor.floors import floor_of
from clearfloor.links import changed_links, follow, links_of, new_ways
from clearfloor.search import find_path

IN = False
OUT = True

# The way 0 1 2 3 6, with 4 beside 6 and 5 beside 1.
BRANCHES = floor_of([[1], [0, 2, 5], [1, 3], [2, 6], [6], [1], [3, 4]], [5, 6], [])
KEPT = [[0, 1, 2, 3, 6]]
PATH = [(4, IN), (4, OUT), (6, IN), (3, OUT), (2, IN), (1, OUT), (5, IN), (5, OUT)]


class LinksOfTest(unittest.TestCase):
    def test_pairs_way_by_way(self):
        self.assertEqual(links_of([[5, 6, 7], [4], [1, 0]]), [(5, 6), (6, 7), (1, 0)])

    def test_none(self):
        self.assertEqual(links_of([]), [])
        self.assertEqual(links_of([[3], [4]]), [])


class ChangedLinksTest(unittest.TestCase):
    def test_example_of_the_document(self):
        path = [(0, IN), (1, OUT), (2, IN), (2, OUT)]
        self.assertEqual(changed_links([(1, 0)], path), [(1, 2)])

    def test_those_that_are_left_and_then_the_new_ones(self):
        path = [(0, IN), (1, OUT), (2, IN), (2, OUT), (3, IN), (3, OUT)]
        links = [(8, 7), (1, 0), (5, 6)]
        self.assertEqual(changed_links(links, path), [(8, 7), (5, 6), (1, 2), (2, 3)])

    def test_only_additions(self):
        path = [(9, IN), (9, OUT), (3, IN), (3, OUT), (1, IN), (1, OUT)]
        self.assertEqual(changed_links([(5, 6)], path), [(5, 6), (9, 3), (3, 1)])

    def test_a_step_between_the_spots_of_one_cell_changes_nothing(self):
        self.assertEqual(changed_links([(4, 5)], [(4, IN), (4, OUT)]), [(4, 5)])
        self.assertEqual(changed_links([(4, 5)], [(4, OUT), (4, IN)]), [(4, 5)])
        self.assertEqual(changed_links([(4, 5)], [(4, IN)]), [(4, 5)])

    def test_back_along_two_links(self):
        path = [(4, IN), (4, OUT), (3, IN), (2, OUT), (2, IN), (1, OUT), (5, IN), (5, OUT)]
        self.assertEqual(changed_links([(0, 1), (1, 2), (2, 3)], path), [(0, 1), (4, 3), (1, 5)])

    def test_only_the_very_pair_is_removed(self):
        path = [(0, IN), (1, OUT), (2, IN), (2, OUT)]
        links = [(0, 7), (1, 0), (8, 1)]
        self.assertEqual(changed_links(links, path), [(0, 7), (8, 1), (1, 2)])

    def test_a_new_link_may_run_against_one_that_is_left(self):
        wanted = [(0, 1), (2, 3), (4, 6), (3, 2), (1, 5)]
        self.assertEqual(changed_links(links_of(KEPT), PATH), wanted)


class FollowTest(unittest.TestCase):
    def test_the_cells_that_are_met(self):
        links = [(2, 5), (0, 1), (7, 8), (1, 2)]
        self.assertEqual(follow(links, 0), [0, 1, 2, 5])
        self.assertEqual(follow(links, 2), [2, 5])
        self.assertEqual(follow(links, 7), [7, 8])

    def test_a_cell_without_a_link(self):
        self.assertEqual(follow([(2, 5)], 5), [5])
        self.assertEqual(follow([(2, 5)], 3), [3])
        self.assertEqual(follow([], 0), [0])


class NewWaysTest(unittest.TestCase):
    def test_example_of_the_document(self):
        self.assertEqual(new_ways([[1, 0]], [(0, IN), (1, OUT), (2, IN), (2, OUT)]), [[1, 2], [0]])

    def test_the_first_cells_keep_their_order(self):
        path = [(3, IN), (3, OUT), (4, IN), (4, OUT)]
        self.assertEqual(new_ways([[9, 8], [1], [6, 5, 2]], path), [[9, 8], [1], [6, 5, 2], [3, 4]])

    def test_without_kept_ways(self):
        self.assertEqual(new_ways([], [(3, IN), (3, OUT)]), [[3]])
        self.assertEqual(new_ways([], [(3, IN), (3, OUT), (0, IN), (0, OUT)]), [[3, 0]])

    def test_ways_exchange_their_ends(self):
        path = [(4, IN), (4, OUT), (2, IN), (1, OUT), (5, IN), (5, OUT)]
        self.assertEqual(new_ways([[7, 8], [0, 1, 2, 3]], path), [[7, 8], [0, 1, 5], [4, 2, 3]])

    def test_links_that_are_not_met_are_dropped(self):
        self.assertEqual(find_path(BRANCHES, [], KEPT, [4], BRANCHES.doors), PATH)
        self.assertEqual(new_ways(KEPT, PATH), [[0, 1, 5], [4, 6]])

    def test_cells_that_are_not_met_are_dropped(self):
        path = [(4, IN), (4, OUT), (3, IN), (2, OUT), (2, IN), (1, OUT), (5, IN), (5, OUT)]
        self.assertEqual(new_ways([[0, 1, 2, 3]], path), [[0, 1, 5], [4, 3]])

    def test_a_path_from_within_a_kept_way(self):
        # The new way takes the rest of the kept way.
        path = [(2, IN), (1, OUT), (5, IN), (5, OUT)]
        self.assertEqual(new_ways([[0, 1, 2, 3]], path), [[0, 1, 5], [2, 3]])


class ListsTest(unittest.TestCase):
    def test_lists_that_are_passed_in_stay(self):
        ways = [[0, 1, 2, 3, 6]]
        links = [(0, 1), (1, 2), (2, 3), (3, 6)]
        path = list(PATH)
        links_of(ways).append((9, 9))
        changed_links(links, path).append((9, 9))
        changed_links(links, [(4, IN), (4, OUT)]).append((9, 9))
        follow(links, 0).append(9)
        for way in new_ways(ways, path):
            way.append(9)
        new_ways(ways, [(4, IN), (4, OUT)])[0].append(9)
        self.assertEqual(ways, KEPT)
        self.assertEqual(links, links_of(KEPT))
        self.assertEqual(path, PATH)

    def test_two_calls_agree(self):
        for _ in range(2):
            found = new_ways(KEPT, PATH)
            self.assertEqual(found, [[0, 1, 5], [4, 6]])
            found[0].append(9)
            found.append([9])
