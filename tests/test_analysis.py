"""[41], [42], [44] and clearfloor/analysis.py in the interface."""

import itertools
import random
import unittest

from checks import cuts_off, floors
from clearfloor.acts import act_of
from clearfloor.analysis import analyze, hanging_cells, keeps_promise, most_acts, strength
from clearfloor.events import happen, why_not
from clearfloor.floors import floor_of
from clearfloor.maps import read_floor
from clearfloor.ways import most_ways
from walks import STAGES, made, walks

# The cells of CROSS: 0 is A, 1 a door, 2 the middle, 3 is B and a door.
CROSS = read_floor("#A#\n+.b")
# Two ways from A (2 and 3) to the doors 0 and 5.
PAIR = read_floor("+.AA.+")
# Three ways from A (3, 4, 5), two ways from B (1 and 2).
TRIPLE = read_floor("+bb\nAAA")
OTHERS = ["a.B\n...\n..+", "+.A\n...\n+.B", "ab\nAB", "A.#\n+.B", "+A+\n...\n+B+"]


def few_cells_that_cut(floor, closed, cells):
    """The least number of cells that cut off cells from the doors: it is that of the most ways by [25]."""
    for many in range(floor.size + 1):
        for cut in itertools.combinations(range(floor.size), many):
            if cuts_off(floor, closed, cells, floor.doors, cut):
                return many
    return None


def stages():
    return [read_floor(text) for text in STAGES + OTHERS]


class StrengthTest(unittest.TestCase):
    def test_the_least_of_the_robots_and_the_stations(self):
        self.assertEqual([strength(PAIR, robots) for robots in range(5)], [0, 1, 2, 2, 2])
        self.assertEqual([strength(CROSS, robots) for robots in range(4)], [0, 1, 1, 1])
        self.assertEqual([strength(TRIPLE, robots) for robots in (1, 2, 3, 12)], [1, 2, 2, 2])

    def test_each_station_counts(self):
        self.assertEqual(strength(read_floor("+AA+\n++BB"), 9), 2)
        self.assertEqual(strength(read_floor("+AA+\n+B#+"), 9), 1)
        self.assertEqual(strength(read_floor("+BB+\n+A#+"), 9), 1)
        self.assertEqual(strength(read_floor("+A#B"), 9), 0)

    def test_closed_cells(self):
        self.assertEqual([strength(PAIR, 4, [cell]) for cell in range(6)], [1] * 6)
        self.assertEqual(strength(PAIR, 4, [0, 5]), 0)
        self.assertEqual(strength(PAIR, 4, [2, 3]), 0)
        self.assertEqual(strength(PAIR, 4, []), 2)
        self.assertEqual(strength(PAIR, 1, [4]), 1)
        self.assertEqual([strength(CROSS, 2, [cell]) for cell in range(4)], [0, 1, 0, 0])
        self.assertEqual(strength(CROSS, 2, closed=[1]), 1)

    def test_without_stations(self):
        floor = floor_of([[1], [0]], [0], [])
        self.assertEqual([strength(floor, robots) for robots in (0, 1, 7)], [0, 1, 7])
        self.assertEqual(strength(floor, 7, [0, 1]), 7)

    def test_by_the_cuts_of_small_floors(self):
        for floor in stages() + [floor for floor in floors() if floor.stations]:
            for closed in [[]] + [[cell] for cell in range(floor.size)]:
                counts = [few_cells_that_cut(floor, closed, cells) for cells in floor.stations]
                for robots in (0, 1, 2, 3):
                    self.assertEqual(strength(floor, robots, closed), min([robots] + counts), (floor.near, closed))


class PromiseTest(unittest.TestCase):
    def test_the_strength_is_greater(self):
        self.assertEqual([keeps_promise(PAIR, 4, broken) for broken in range(4)], [True, True, False, False])
        self.assertEqual([keeps_promise(PAIR, 1, broken) for broken in range(3)], [True, False, False])
        self.assertEqual([keeps_promise(CROSS, 5, broken) for broken in range(3)], [True, False, False])
        self.assertIs(keeps_promise(PAIR, 0, 0), False)
        self.assertIs(keeps_promise(read_floor("A#+"), 3, 0), False)
        self.assertIs(keeps_promise(PAIR, 2, 1), True)

    def test_where_it_is_not_kept(self):
        for floor in stages():
            for robots, broken in itertools.product(range(5), repeat=2):
                counts = [few_cells_that_cut(floor, [], cells) for cells in floor.stations]
                breaks = robots <= broken or min(counts) <= broken
                self.assertEqual(keeps_promise(floor, robots, broken), not breaks)


class HangingCellsTest(unittest.TestCase):
    def test_examples(self):
        self.assertEqual(hanging_cells(CROSS, 3), [0, 2, 3])
        self.assertEqual(hanging_cells(PAIR, 2), [0, 1, 2, 3, 4, 5])
        self.assertEqual(hanging_cells(PAIR, 1), [])
        self.assertEqual(hanging_cells(TRIPLE, 3), [1, 2])
        self.assertEqual(hanging_cells(read_floor("+.A.+"), 5), [2])
        self.assertEqual(hanging_cells(read_floor("A#+"), 3), [])
        self.assertEqual(hanging_cells(floor_of([[1], [0]], [0], []), 3), [])
        self.assertEqual(hanging_cells(PAIR, 0), [])

    def test_the_strength_is_less_by_exactly_1_or_the_same(self):
        found = set()
        for floor in stages() + floors():
            for robots in range(5):
                hanging = hanging_cells(floor, robots)
                self.assertEqual(hanging, sorted(set(hanging)))
                for cell in range(floor.size):
                    less = strength(floor, robots) - strength(floor, robots, [cell])
                    self.assertEqual(less, 1 if cell in hanging else 0, (floor.near, robots, cell))
                    found.add(less)
        self.assertEqual(found, {0, 1})


class AnalyzeTest(unittest.TestCase):
    def test_examples(self):
        self.assertEqual(analyze(CROSS, 2), (0, [([[0, 2, 1]], [0]), ([[3]], [3])], [0, 2, 3]))
        self.assertEqual(analyze(PAIR, 4), (1, [([[2, 1, 0], [3, 4, 5]], [2, 3])], [0, 1, 2, 3, 4, 5]))
        self.assertEqual(analyze(PAIR, 1), (0, [([[2, 1, 0], [3, 4, 5]], [2, 3])], []))

    def test_none_if_the_strength_is_0(self):
        self.assertEqual(analyze(read_floor("A#+"), 3), (None, [([], [])], []))
        self.assertEqual(analyze(PAIR, 0), (None, [([[2, 1, 0], [3, 4, 5]], [2, 3])], []))
        self.assertEqual(analyze(read_floor("+A#B"), 1), (None, [([[1, 0]], [1]), ([], [])], []))

    def test_without_stations(self):
        self.assertEqual(analyze(floor_of([[1], [0]], [0], []), 3), (2, [], []))

    def test_its_parts(self):
        for floor in stages():
            for robots in range(4):
                bears, stations, hanging = analyze(floor, robots)
                least = strength(floor, robots)
                self.assertEqual(bears, least - 1 if least > 0 else None)
                self.assertEqual(stations, [most_ways(floor, [], cells, floor.doors) for cells in floor.stations])
                self.assertEqual(hanging, hanging_cells(floor, robots))
                self.assertIsInstance(analyze(floor, robots), tuple)

    def test_lists_that_are_returned_are_new(self):
        for _ in range(2):
            bears, stations, hanging = analyze(CROSS, 2)
            self.assertEqual((bears, stations, hanging), (0, [([[0, 2, 1]], [0]), ([[3]], [3])], [0, 2, 3]))
            stations[0][0][0].append(9)
            stations[0][1].append(9)
            stations.append(9)
            hanging.append(9)
        self.assertEqual(CROSS.stations, [[0], [3]])
        closed = [5, 0]
        strength(PAIR, 3, closed)
        self.assertEqual(closed, [5, 0])


class MostActsTest(unittest.TestCase):
    def test_examples(self):
        self.assertEqual(most_acts(CROSS, 2), 3 * 5 * 5 * 15)
        self.assertEqual(most_acts(PAIR, 1), 2 * 7 * 7 * 19)
        self.assertEqual(most_acts(read_floor("+"), 0), 36)

    def test_so_many_acts_at_most_before_one_more_order_is_done(self):
        rng = random.Random(3)
        for text in ("+.A\n...\nB.+", "ab", "+A..\n.#..\n..B+"):
            for robots in (1, 2, 3):
                fleet = made(text, [(read_floor(text).depot,)] * robots)
                for _ in range(4):
                    fleet = happen(fleet, ("order", 0, 1))
                while fleet.count_done() < 4:
                    fleet = self.serve_one(fleet, rng)

    def serve_one(self, fleet, rng):
        done = fleet.count_done()
        for _ in range(most_acts(fleet.floor, len(fleet.robots))):
            ready = [robot for robot in range(len(fleet.robots)) if act_of(fleet, robot) is not None]
            self.assertTrue(ready)
            fleet = happen(fleet, ("go", rng.choice(ready)))
            if fleet.count_done() > done:
                return fleet
            if len(fleet.orders) < 20 and why_not(fleet, ("order", 1, 0)) is None and rng.random() < 0.1:
                fleet = happen(fleet, ("order", 1, 0))
        return self.fail("no order was done")

    def test_some_robot_has_an_act_where_the_promise_is_kept(self):
        kept = 0
        for _, _, fleet in walks(seeds=4):
            opened = any(not order.done for order in fleet.orders)
            if opened and keeps_promise(fleet.floor, len(fleet.robots), fleet.count_broken()):
                kept += 1
                self.assertTrue(any(act_of(fleet, robot) for robot in range(len(fleet.robots))))
        self.assertGreater(kept, 300)
