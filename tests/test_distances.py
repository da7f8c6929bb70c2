"""[13] to [15] and clearfloor/distances.py in the interface."""

import itertools
import unittest

from clearfloor.distances import distance, distances, nearer
from clearfloor.floors import floor_of
from clearfloor.maps import read_floor

LINE = floor_of([[1], [0, 2], [1, 3], [2, 4], [3]], [0], [])


def plain_distances(floor, closed, aims):
    """The distances by [14], found by lengthening all rows of steps at once."""
    positions = [place for place in range(floor.size + 1) if place not in closed]
    reached = {place: 0 for place in positions if place in aims}
    for many in range(1, floor.size + 2):
        for place in positions:
            if place not in reached and any(reached.get(other) == many - 1 for other in floor.around(place)):
                reached[place] = many
    return [reached.get(place) for place in range(floor.size + 1)]


class DistancesTest(unittest.TestCase):
    def test_a_row_of_cells(self):
        self.assertEqual(distances(LINE, [], [4]), [4, 3, 2, 1, 0, 5])
        self.assertEqual(distances(LINE, [], [0]), [0, 1, 2, 3, 4, 1])

    def test_the_least_of_several_aims(self):
        self.assertEqual(distances(LINE, [], [4, 0]), [0, 1, 2, 1, 0, 1])
        self.assertEqual(distances(LINE, [], [1, 1, 3]), [1, 0, 1, 0, 1, 2])

    def test_closed_cells_bar_and_have_none(self):
        self.assertEqual(distances(LINE, [2], [4]), [None, None, None, 1, 0, None])
        self.assertEqual(distances(LINE, [2, 0], [4]), [None, None, None, 1, 0, None])

    def test_a_closed_aim_is_no_aim(self):
        self.assertEqual(distances(LINE, [4], [4]), [None] * 6)
        self.assertEqual(distances(LINE, [4], [4, 1]), [1, 0, 1, 2, None, 2])

    def test_no_aims(self):
        self.assertEqual(distances(LINE, [], []), [None] * 6)

    def test_over_the_depot(self):
        floor = floor_of([[1], [0, 2], [1, 3], [2, 4], [3]], [0, 4], [])
        self.assertEqual(distances(floor, [], [4]), [2, 3, 2, 1, 0, 1])
        self.assertEqual(distances(floor, [2], [3]), [3, 4, None, 0, 1, 2])

    def test_a_closed_door_does_not_lead_to_the_depot(self):
        floor = floor_of([[1], [0, 2], [1]], [0, 2], [])
        self.assertEqual(distances(floor, [0], [1]), [None, 0, 1, 2])
        self.assertEqual(distances(floor, [0, 2], [1]), [None, 0, None, None])

    def test_parts_of_a_floor_without_a_way_between_them(self):
        floor = read_floor("+#A\n.#.")
        self.assertEqual(distances(floor, [], [0]), [0, None, 1, None, 1])
        floor = read_floor("+#A\n.#+")
        self.assertEqual(distances(floor, [], [0]), [0, 3, 1, 2, 1])

    def test_a_map(self):
        floor = read_floor("#A#\n+.b")
        self.assertEqual(distances(floor, [], floor.stations[0]), [0, 2, 1, 2, 3])
        self.assertEqual(distances(floor, [], floor.stations[1]), [2, 2, 1, 0, 1])
        self.assertEqual(distances(floor, [2], floor.stations[1]), [None, 2, None, 0, 1])

    def test_every_choice_of_closed_cells_and_aims(self):
        for text in ["+..\n.#.", "A.b\n#+.", "...\n+.+", ".#.\n+.."]:
            floor = read_floor(text)
            cells = range(floor.size)
            choices = [row for many in range(4) for row in itertools.combinations(cells, many)]
            for closed in choices:
                for aims in choices:
                    wanted = plain_distances(floor, closed, aims)
                    self.assertEqual(distances(floor, list(closed), list(aims)), wanted, (text, closed, aims))


class DistanceTest(unittest.TestCase):
    def test_each_position(self):
        for closed, aims in [([], [4]), ([2], [4]), ([4], [4]), ([], []), ([1], [0, 3])]:
            wanted = distances(LINE, closed, aims)
            for position in range(6):
                self.assertEqual(distance(LINE, closed, aims, position), wanted[position])

    def test_examples(self):
        self.assertEqual(distance(LINE, [], [4], 4), 0)
        self.assertEqual(distance(LINE, [], [4], 0), 4)
        self.assertEqual(distance(LINE, [], [4], LINE.depot), 5)
        self.assertIsNone(distance(LINE, [3], [4], 0))
        self.assertIsNone(distance(LINE, [0], [4], 0))


class NearerTest(unittest.TestCase):
    def test_in_the_order_of_around(self):
        square = read_floor("...\n.+.\n...")
        self.assertEqual(nearer(square, [], [8], 0), [1, 3])
        self.assertEqual(nearer(square, [], [0], 8), [5, 7])
        self.assertEqual(nearer(square, [], [0], 4), [1, 3])
        self.assertEqual(nearer(square, [], [8, 0], 4), [1, 3, 5, 7])

    def test_around_a_closed_cell(self):
        square = read_floor("...\n.+.\n...")
        self.assertEqual(nearer(square, [1], [8], 0), [3])
        self.assertEqual(nearer(square, [1, 3], [8], 0), [])

    def test_the_depot_comes_last(self):
        floor = floor_of([[1, 3], [0, 2], [1, 3], [0, 2]], [0, 2], [])
        self.assertEqual(nearer(floor, [], [2], 0), [1, 3, 4])
        self.assertEqual(nearer(floor, [1, 3], [2], 0), [4])

    def test_from_the_depot(self):
        floor = read_floor("+.+\n.A.")
        self.assertEqual(nearer(floor, [], [4], floor.depot), [0, 2])
        self.assertEqual(nearer(floor, [], [3], floor.depot), [0])
        self.assertEqual(nearer(floor, [0], [3], floor.depot), [2])

    def test_none_at_an_aim(self):
        self.assertEqual(nearer(LINE, [], [3], 3), [])

    def test_none_without_a_distance(self):
        self.assertEqual(nearer(LINE, [2], [4], 1), [])
        self.assertEqual(nearer(LINE, [2], [4], 2), [])
        self.assertEqual(nearer(LINE, [], [], 1), [])

    def test_every_position_by_its_distances(self):
        for text in ["+..\n.#.", "A.b\n#+.", "...\n+.+"]:
            floor = read_floor(text)
            for closed in itertools.combinations(range(floor.size), 1):
                for aim in range(floor.size):
                    table = plain_distances(floor, closed, [aim])
                    for position in range(floor.size + 1):
                        own = table[position]
                        wanted = []
                        if own is not None and own >= 1:
                            wanted = [other for other in floor.around(position) if table[other] == own - 1]
                        self.assertEqual(nearer(floor, list(closed), [aim], position), wanted)


class ListsTest(unittest.TestCase):
    def test_lists_that_are_passed_in_stay(self):
        closed = [3, 1]
        aims = [4, 0, 4]
        distances(LINE, closed, aims).append(1)
        distance(LINE, closed, aims, 2)
        nearer(LINE, closed, aims, 2).append(1)
        self.assertEqual((closed, aims), ([3, 1], [4, 0, 4]))

    def test_returned_lists_are_new(self):
        first = distances(LINE, [], [4])
        first[0] = 99
        self.assertEqual(distances(LINE, [], [4]), [4, 3, 2, 1, 0, 5])
        steps = nearer(LINE, [], [4], 0)
        steps.append(99)
        self.assertEqual(nearer(LINE, [], [4], 0), [1])
        self.assertEqual(LINE.around(0), [1, 5])
