"""[68] to [72], with [25] for cuts and [41], [42] for the promise, and clearfloor/games.py in the interface."""

import unittest

from checks import THREE, choices, floors, small_floors
from clearfloor.analysis import keeps_promise
from clearfloor.distances import distance
from clearfloor.errors import ClearfloorError, MoveError
from clearfloor.floors import floor_of
from clearfloor.games import approach, blockade, escape, is_move, moves, play, trail, weakness
from clearfloor.maps import read_floor
from clearfloor.ways import most_ways, ways_home

LINE = floor_of(THREE, [0, 2], [])
# The cells of SQUARE are 0 to 8, the doors its four corners; the middle 4 is A; the depot is 9.
SQUARE = read_floor("+.+\n.A.\n+.+")
# The cells of CROSS: 0 is A, 1 a door, 2 the middle, 3 is B and a door; the depot is 4.
CROSS = read_floor("#A#\n+.b")
TEXTS = ["#A#\n+.b", "+.A\n...\nB.+", "A.+.B", "a.B\n...\n..+", "ab\nAB", "+A+\n...\n+B+", "+AA+\n+B.+", "A#+"]
TEXTS += ["aaA\n...\nbbB", "+.+\nAAA\n.+B"]


def states(floor, closed, traps, positions):
    """All rows of positions that any moves lead to."""
    found = {tuple(positions)}
    queue = [list(positions)]
    for row in queue:
        for robot, own in enumerate(row):
            if own not in traps:
                for other in floor.around(own):
                    after = row[:robot] + [other] + row[robot + 1:]
                    free = other == floor.depot or (other not in closed and other not in row)
                    if free and tuple(after) not in found:
                        found.add(tuple(after))
                        queue.append(after)
    return found


class IsMoveTest(unittest.TestCase):
    def test_to_the_positions_next_to_its_own(self):
        for own in range(10):
            found = [place for place in range(10) if is_move(SQUARE, [], [], [own], (0, place))]
            self.assertEqual(found, sorted(SQUARE.around(own)))
        self.assertIs(is_move(SQUARE, [], [], [4], (0, 1)), True)
        self.assertIs(is_move(SQUARE, [], [], [4], (0, 0)), False)
        self.assertIs(is_move(SQUARE, [], [], [4], (0, 4)), False)
        self.assertIs(is_move(SQUARE, [], [], [9], (0, 9)), False)

    def test_from_traps(self):
        for own in range(10):
            for place in range(10):
                self.assertIs(is_move(SQUARE, [], [own], [own], (0, place)), False)
        self.assertIs(is_move(SQUARE, [], [3, 4, 3], [4], (0, 1)), False)
        self.assertIs(is_move(SQUARE, [], [9], [9], (0, 0)), False)
        self.assertIs(is_move(SQUARE, [], [4], [4, 1], (1, 0)), True)

    def test_onto_traps(self):
        self.assertIs(is_move(SQUARE, [], [1], [4], (0, 1)), True)
        self.assertIs(is_move(SQUARE, [], [9], [0], (0, 9)), True)
        self.assertIs(is_move(SQUARE, [], [0], [9], (0, 0)), True)

    def test_onto_closed_cells(self):
        self.assertIs(is_move(SQUARE, [1], [], [4], (0, 1)), False)
        self.assertIs(is_move(SQUARE, [0, 5, 1], [], [4], (0, 1)), False)
        self.assertIs(is_move(SQUARE, [0, 5, 1], [], [4], (0, 3)), True)
        self.assertIs(is_move(SQUARE, [0], [], [9], (0, 0)), False)

    def test_onto_cells_where_a_robot_stands(self):
        self.assertIs(is_move(SQUARE, [], [], [4, 1], (0, 1)), False)
        self.assertIs(is_move(SQUARE, [], [], [4, 1], (1, 4)), False)
        self.assertIs(is_move(SQUARE, [], [], [9, 1, 0], (0, 0)), False)
        self.assertIs(is_move(SQUARE, [], [], [9, 1, 0], (0, 2)), True)
        self.assertIs(is_move(SQUARE, [], [1], [4, 1], (0, 1)), False)

    def test_into_the_depot(self):
        self.assertIs(is_move(SQUARE, [], [], [0, 9, 9], (0, 9)), True)
        self.assertIs(is_move(SQUARE, [1, 3], [1], [0, 9, 1], (0, 9)), True)
        self.assertIs(is_move(SQUARE, [], [], [4, 9], (0, 9)), False)
        self.assertIs(is_move(SQUARE, [], [0], [0], (0, 9)), False)

    def test_robots_that_there_are_not(self):
        for robot in (-1, 2, 3):
            self.assertIs(is_move(SQUARE, [], [], [0, 4], (robot, 1)), False)


class MovesTest(unittest.TestCase):
    def test_by_robots_and_then_in_the_order_of_around(self):
        found = [(0, 1), (0, 3), (0, 9), (1, 3), (1, 5), (1, 7)]
        self.assertEqual(moves(SQUARE, [], [], [0, 4]), found[:3] + [(1, 1)] + found[3:])
        self.assertEqual(moves(SQUARE, [1], [], [0, 4]), found[1:])
        self.assertEqual(moves(SQUARE, [1], [0], [0, 4]), found[3:])
        self.assertEqual(moves(SQUARE, [1, 3, 5, 7], [0], [0, 4]), [])
        self.assertEqual(moves(SQUARE, [], [], [9, 2]), [(0, 0), (0, 6), (0, 8), (1, 1), (1, 5), (1, 9)])

    def test_no_robots(self):
        self.assertEqual(moves(SQUARE, [], [], []), [])

    def test_each_is_a_move_and_no_other_one(self):
        for floor in small_floors():
            for closed in choices(range(floor.size), 1):
                for positions in ([0, floor.depot], [floor.size - 1, 0], [floor.depot, floor.depot]):
                    for traps in ([], [0], [floor.depot]):
                        self.check_moves(floor, closed, traps, positions)

    def check_moves(self, floor, closed, traps, positions):
        wanted = []
        for robot, own in enumerate(positions):
            for place in floor.around(own):
                if is_move(floor, closed, traps, positions, (robot, place)):
                    wanted.append((robot, place))
        self.assertEqual(moves(floor, closed, traps, positions), wanted)


class PlayTest(unittest.TestCase):
    def test_positions_behind_the_moves(self):
        self.assertEqual(play(SQUARE, [], [], [9, 4], []), [9, 4])
        self.assertEqual(play(SQUARE, [], [], [9, 4], [(0, 0)]), [0, 4])
        self.assertEqual(play(SQUARE, [], [], [9, 4], [(0, 0), (1, 5), (0, 1), (0, 4), (1, 2), (1, 9)]), [4, 9])
        self.assertEqual(play(SQUARE, [], [1], [0, 4], [(0, 1), (1, 3)]), [1, 3])

    def check_fault(self, closed, traps, positions, row, index):
        with self.assertRaises(MoveError) as caught:
            play(SQUARE, closed, traps, positions, row)
        self.assertEqual(caught.exception.index, index)
        self.assertIsInstance(caught.exception, ClearfloorError)

    def test_the_first_move_that_cannot_be_made(self):
        self.check_fault([], [], [9], [(0, 4)], 0)
        self.check_fault([], [], [9], [(0, 0), (0, 1), (0, 9)], 2)
        self.check_fault([], [1], [9], [(0, 0), (0, 1), (0, 2), (0, 5)], 2)
        self.check_fault([5], [], [4, 1], [(0, 3), (1, 2), (1, 5), (0, 9)], 2)
        self.check_fault([], [], [4, 1], [(0, 3), (1, 4), (0, 4)], 2)
        self.check_fault([], [], [4, 1], [(0, 3), (2, 2)], 1)

    def test_a_cell_that_a_robot_left_is_free(self):
        self.assertEqual(play(LINE, [], [], [0, 1], [(0, 3), (1, 0), (0, 2)]), [2, 0])

    def test_what_is_handed_in_stays(self):
        closed, traps, positions, row = [5], [7], [9, 4], [(0, 0), (1, 3), (0, 1)]
        for _ in range(2):
            found = play(SQUARE, closed, traps, positions, row)
            self.assertEqual(found, [1, 3])
            found.append(9)
            moves(SQUARE, closed, traps, positions).append(9)
            self.assertEqual((closed, traps, positions), ([5], [7], [9, 4]))
            self.assertEqual(row, [(0, 0), (1, 3), (0, 1)])
            none = play(SQUARE, closed, traps, positions, [])
            none.append(3)
            self.assertEqual(positions, [9, 4])
        self.check_fault(closed, traps, positions, [(0, 0), (0, 0)], 1)
        self.assertEqual(positions, [9, 4])


class EscapeTest(unittest.TestCase):
    def test_the_first_way_without_a_trap(self):
        self.assertEqual(escape(SQUARE, [[4, 1, 0], [5, 2]], []), [(0, 1), (0, 0), (0, 9)])
        self.assertEqual(escape(SQUARE, [[4, 1, 0], [5, 2]], [1]), [(1, 2), (1, 9)])
        self.assertEqual(escape(SQUARE, [[4, 1, 0], [5, 2]], [4]), [(1, 2), (1, 9)])
        self.assertEqual(escape(SQUARE, [[4, 1, 0], [5, 2]], [0, 0, 3]), [(1, 2), (1, 9)])
        self.assertEqual(escape(SQUARE, [[4, 1, 0], [5, 2]], [2, 7]), [(0, 1), (0, 0), (0, 9)])
        self.assertEqual(escape(SQUARE, [[0], [2]], [0]), [(1, 9)])

    def test_none_where_every_way_has_a_trap(self):
        self.assertIsNone(escape(SQUARE, [[4, 1, 0], [5, 2]], [0, 5]))
        self.assertIsNone(escape(SQUARE, [[4, 1, 0], [5, 2]], [2, 4, 8]))
        self.assertIsNone(escape(SQUARE, [[0]], [0]))
        self.assertIsNone(escape(SQUARE, [], []))

    def test_with_fewer_traps_than_ways_its_moves_can_be_made(self):
        escapes = 0
        for floor in small_floors():
            for closed in choices(range(floor.size), 1):
                for cells in choices(range(floor.size), 3):
                    ways = ways_home(floor, closed, cells)
                    for traps in choices(range(floor.size), 2):
                        if ways is not None and len(traps) < len(ways):
                            self.check_escape(floor, closed, cells, ways, traps)
                            escapes += 1
        self.assertGreater(escapes, 500)

    def check_escape(self, floor, closed, cells, ways, traps):
        row = escape(floor, ways, traps)
        self.assertIsNotNone(row)
        robot = row[0][0]
        self.assertTrue(all(set(way) & set(traps) for way in ways[:robot]))
        self.assertFalse(set(ways[robot]) & set(traps))
        self.assertEqual(row, [(robot, place) for place in ways[robot][1:] + [floor.depot]])
        wanted = cells[:robot] + [floor.depot] + cells[robot + 1:]
        self.assertEqual(play(floor, closed, traps, cells, row), wanted)

    def test_what_is_handed_in_stays(self):
        ways, traps = [[4, 1, 0], [5, 2]], [1]
        for _ in range(2):
            found = escape(SQUARE, ways, traps)
            self.assertEqual(found, [(1, 2), (1, 9)])
            found.append(9)
            self.assertEqual((ways, traps), ([[4, 1, 0], [5, 2]], [1]))


class BlockadeTest(unittest.TestCase):
    def test_examples(self):
        self.assertEqual(blockade(CROSS, [], [0, 2]), [2])
        self.assertEqual(blockade(CROSS, [3], [0, 2]), [2])
        self.assertEqual(blockade(CROSS, [2], [0, 1]), [1])
        self.assertEqual(blockade(CROSS, [1, 3], [0, 2]), [])
        self.assertEqual(blockade(LINE, [], [0, 1, 2]), [0, 2])
        self.assertEqual(blockade(LINE, [], [2, 1, 0]), [0, 2])
        self.assertEqual(blockade(LINE, [0], [1, 2]), [2])
        self.assertEqual(blockade(LINE, [2], [2]), [])

    def test_none(self):
        self.assertIsNone(blockade(CROSS, [], [0]))
        self.assertIsNone(blockade(CROSS, [], [0, 1]))
        self.assertIsNone(blockade(LINE, [], [0, 1]))
        self.assertIsNone(blockade(LINE, [], []))
        self.assertIsNone(blockade(LINE, [0], [1]))
        self.assertIsNone(blockade(SQUARE, [], [0, 4, 8]))

    def test_cells_count_once(self):
        self.assertIsNone(blockade(CROSS, [], [0, 0]))
        self.assertEqual(blockade(CROSS, [], [0, 2, 0]), [2])

    def test_the_nearest_cut_and_no_other(self):
        row = floor_of([[1], [0, 2], [1, 3], [2]], [3], [])
        self.assertEqual(blockade(row, [], [0, 1]), [1])
        self.assertEqual(blockade(row, [], [0, 2]), [2])

    def test_no_moves_lead_into_the_depot(self):
        found = 0
        for floor in small_floors():
            for closed in choices(range(floor.size), 1):
                for cells in choices(range(floor.size), 3):
                    ways, cut = most_ways(floor, closed, cells, floor.doors)
                    traps = blockade(floor, closed, cells)
                    self.assertEqual(traps, cut if len(cut) < len(cells) else None)
                    # A robot on a closed cell is not what a cut is about: the ways do not begin there.
                    if traps is not None and not set(cells) & set(closed):
                        found += 1
                        self.assertEqual(traps, sorted(traps))
                        reached = states(floor, closed, traps, cells)
                        self.assertFalse(any(floor.depot in row for row in reached))
        self.assertGreater(found, 100)

    def test_lists(self):
        closed, cells = [3, 3], [2, 0]
        for _ in range(2):
            found = blockade(CROSS, closed, cells)
            self.assertEqual(found, [2])
            found.append(9)
            self.assertEqual((closed, cells), ([3, 3], [2, 0]))


class WeaknessTest(unittest.TestCase):
    def test_too_few_robots(self):
        self.assertEqual(weakness(SQUARE, 2, 2), (None, []))
        self.assertEqual(weakness(SQUARE, 0, 0), (None, []))
        self.assertEqual(weakness(SQUARE, 1, 3), (None, []))
        # The station is too weak as well, but the robots come first.
        self.assertEqual(weakness(CROSS, 1, 1), (None, []))

    def test_a_station(self):
        self.assertEqual(weakness(CROSS, 2, 1), (0, [0]))
        self.assertEqual(weakness(SQUARE, 5, 1), (0, [4]))
        self.assertEqual(weakness(read_floor("A#+"), 2, 0), (0, []))
        self.assertEqual(weakness(read_floor("A#+"), 2, 1), (0, []))
        self.assertEqual(weakness(read_floor("AA+"), 2, 1), (0, [1]))

    def test_the_first_such_station(self):
        floor = read_floor("+AA+\n+B#+")
        self.assertIsNone(weakness(floor, 9, 0))
        self.assertEqual(weakness(floor, 9, 1), (1, [5]))
        self.assertEqual(weakness(floor, 9, 2), (0, [1, 2]))

    def test_none(self):
        self.assertIsNone(weakness(CROSS, 2, 0))
        self.assertIsNone(weakness(SQUARE, 1, 0))
        self.assertIsNone(weakness(LINE, 3, 2))
        self.assertIsNone(weakness(LINE, 1, 0))

    def test_it_is_there_where_the_promise_is_not_kept(self):
        for text in TEXTS:
            floor = read_floor(text)
            for robots in range(4):
                for broken in range(4):
                    found = weakness(floor, robots, broken)
                    self.assertEqual(found is None, keeps_promise(floor, robots, broken))
                    if found is not None and found[0] is not None:
                        self.check_weakness(floor, robots, broken, found)

    def check_weakness(self, floor, robots, broken, found):
        station, cut = found
        ways, nearest = most_ways(floor, [], floor.stations[station], floor.doors)
        self.assertLessEqual(len(ways), broken)
        self.assertEqual(cut, nearest)
        for cells in floor.stations[:station]:
            self.assertGreater(len(most_ways(floor, [], cells, floor.doors)[0]), broken)
        if robots <= 2:
            reached = states(floor, [], cut, [floor.depot] * robots)
            cells = [cell for cell in floor.stations[station] if cell not in cut]
            self.assertFalse(any(cell in row for row in reached for cell in cells))

    def test_lists(self):
        for _ in range(2):
            station, cut = weakness(CROSS, 2, 1)
            self.assertEqual((station, cut), (0, [0]))
            cut.append(9)
            none, cells = weakness(CROSS, 1, 1)
            self.assertEqual((none, cells), (None, []))
            cells.append(9)


class TrailTest(unittest.TestCase):
    def test_from_behind_the_first_one(self):
        parents = {9: None, 0: 9, 2: 9, 1: 0, 4: 1, 5: 2}
        self.assertEqual(trail(parents, 4), [0, 1, 4])
        self.assertEqual(trail(parents, 5), [2, 5])
        self.assertEqual(trail(parents, 0), [0])
        self.assertEqual(trail(parents, 9), [])
        self.assertEqual(trail({0: None, 3: 0}, 3), [3])

    def test_the_dict_stays(self):
        parents = {9: None, 0: 9, 1: 0}
        trail(parents, 1).append(7)
        self.assertEqual((trail(parents, 1), parents), ([0, 1], {9: None, 0: 9, 1: 0}))


class ApproachTest(unittest.TestCase):
    def test_a_shortest_row(self):
        self.assertEqual(approach(SQUARE, [4], []), [0, 1, 4])
        self.assertEqual(approach(SQUARE, [5], []), [2, 5])
        self.assertEqual(approach(SQUARE, [8], []), [8])
        self.assertEqual(approach(CROSS, [0], []), [1, 2, 0])

    def test_the_first_of_the_cells_that_is_taken(self):
        self.assertEqual(approach(SQUARE, [7, 1], []), [0, 1])
        self.assertEqual(approach(SQUARE, [4, 7, 5], []), [2, 5])
        self.assertEqual(approach(SQUARE, [8, 6, 4], []), [6])
        self.assertEqual(approach(SQUARE, [3, 3], []), [0, 3])

    def test_over_no_traps(self):
        self.assertEqual(approach(SQUARE, [4], [0]), [2, 1, 4])
        self.assertEqual(approach(SQUARE, [4], [1]), [0, 3, 4])
        self.assertEqual(approach(SQUARE, [4], [3, 1, 0]), [2, 5, 4])
        self.assertEqual(approach(SQUARE, [3, 4], [3, 6]), [0, 1, 4])
        self.assertEqual(approach(CROSS, [0], [1]), [3, 2, 0])

    def test_none(self):
        self.assertIsNone(approach(SQUARE, [4], [4]))
        self.assertIsNone(approach(SQUARE, [4], [1, 3, 5, 7]))
        self.assertIsNone(approach(SQUARE, [4], [8, 6, 2, 0]))
        self.assertIsNone(approach(SQUARE, [], []))
        self.assertIsNone(approach(read_floor("A#+"), [0], []))

    def test_a_shortest_row_of_many_floors(self):
        for floor in floors():
            for traps in choices(range(floor.size), 2):
                for cells in choices(range(floor.size), 2) + [list(range(floor.size))]:
                    self.check_approach(floor, cells[::-1], traps)

    def check_approach(self, floor, cells, traps):
        found = approach(floor, cells, traps)
        steps = distance(floor, traps, cells, floor.depot)
        if found is None:
            self.assertIsNone(steps)
        else:
            self.assertEqual(len(found), steps)
            self.assertIn(found[-1], cells)
            self.assertFalse(set(found) & set(traps))
            self.assertEqual(play(floor, [], traps, [floor.depot], [(0, place) for place in found]), found[-1:])

    def test_to_every_station_where_the_promise_is_kept(self):
        kept = 0
        for text in TEXTS:
            floor = read_floor(text)
            for broken in range(3):
                if keeps_promise(floor, broken + 1, broken):
                    for traps in choices(range(floor.size), broken):
                        for cells in floor.stations:
                            kept += 1
                            self.assertIsNotNone(approach(floor, cells, traps), (text, traps))
        self.assertGreater(kept, 100)

    def test_the_first_row_by_breadth(self):
        for floor in floors():
            for traps in choices(range(floor.size), 1):
                rows = [[]]
                best = {}
                for row in rows:
                    place = row[-1] if row else floor.depot
                    for other in floor.around(place):
                        if other not in traps and other != floor.depot and other not in best:
                            best[other] = row + [other]
                            rows.append(best[other])
                for cell in range(floor.size):
                    self.assertEqual(approach(floor, [cell], traps), best.get(cell))

    def test_lists(self):
        cells, traps = [7, 1], [0, 2]
        for _ in range(2):
            found = approach(SQUARE, cells, traps)
            self.assertEqual(found, [6, 7])
            found.append(9)
            self.assertEqual((cells, traps), ([7, 1], [0, 2]))
        self.assertEqual(SQUARE.doors, [0, 2, 6, 8])
