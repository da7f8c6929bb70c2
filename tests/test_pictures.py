"""[75] and clearfloor/pictures.py in the interface."""

import unittest

from checks import THREE
from clearfloor.fleet import Fleet, Robot
from clearfloor.floors import Floor, floor_of
from clearfloor.maps import read_floor
from clearfloor.pictures import picture, sign_at, way_picture
from walks import STAGES, made, rows_of, walks

# The cells of CROSS: 0 is A, 1 a door, 2 the middle, 3 is B and a door; the depot is 4.
CROSS = "#A#\n+.b"
FIELD = "++++\n....\nAABB"


def plain_picture(fleet, stars=()):
    """[75], put plainly, for a floor of a map."""
    lines = []
    for row in range(1 + max(row for row, _ in fleet.floor.places)):
        line = ""
        for column in range(1 + max(column for _, column in fleet.floor.places)):
            cell = fleet.floor.cell_at(row, column)
            on_it = [at for at, robot in enumerate(fleet.robots) if robot.place == cell]
            sign = "#" if cell is None else "."
            if on_it and cell is not None:
                sign = "X" if fleet.robots[on_it[0]].broken else "0123456789ab"[on_it[0]]
            line += "*" if cell is not None and cell in stars else sign
        lines.append(line)
    return "\n".join(lines)


class PictureTest(unittest.TestCase):
    def test_walls_and_cells(self):
        self.assertEqual(picture(made(CROSS, [])), "#.#\n...")
        self.assertEqual(picture(made(CROSS, [(4,), (4, True)])), "#.#\n...")
        self.assertEqual(picture(made("+", [])), ".")
        self.assertEqual(picture(made("A.+\n#.#\n.#b", [])), "...\n#.#\n.#.")

    def test_doors_and_stations_have_no_signs(self):
        self.assertEqual(picture(made(FIELD, [])), "....\n....\n....")

    def test_walls_at_the_edge(self):
        # Rows and columns without cells behind the last cell are not drawn; those ahead of it are.
        self.assertEqual(picture(made("###\n#+#\n###", [])), "##\n#.")
        self.assertEqual(picture(made("+##\n.##", [])), ".\n.")

    def test_robots_that_run_and_broken_ones(self):
        fleet = made(CROSS, [(0, False, [0, 2, 1]), (3, True), (4,), (1, False, [1])])
        self.assertEqual(picture(fleet), "#0#\n3.X")
        self.assertEqual([sign_at(fleet, cell) for cell in range(4)], ["0", "3", ".", "X"])

    def test_all_signs(self):
        fleet = made(FIELD, [(cell, False, [cell]) for cell in range(12)])
        self.assertEqual(picture(fleet), "0123\n4567\n89ab")
        self.assertEqual([sign_at(fleet, cell) for cell in range(12)], list("0123456789ab"))
        fleet = made(FIELD, [(11 - cell, False, [11 - cell]) for cell in range(12)])
        self.assertEqual(picture(fleet), "ba98\n7654\n3210")
        fleet = made(FIELD, [(cell, True) for cell in range(12)])
        self.assertEqual(picture(fleet), "XXXX\nXXXX\nXXXX")
        fleet = made(FIELD, [(12,)] * 10 + [(5, False, [5]), (6, True)])
        self.assertEqual(picture(fleet), "....\n.aX.\n....")

    def test_more_robots_than_a_warehouse_has(self):
        fleet = made(FIELD, [(12,)] * 30)
        fleet.robots += [Robot(cell, False, [cell]) for cell in range(12)]
        self.assertEqual([len(line) for line in picture(fleet).split("\n")], [4, 4, 4])

    def test_robots_in_the_depot_are_not_drawn(self):
        self.assertEqual(picture(made(FIELD, [(12,)] * 12)), picture(made(FIELD, [])))

    def test_a_floor_made_from_lists(self):
        floor = floor_of(THREE, [0, 2], [[1]])
        fleet = Fleet(floor, robots=2)
        self.assertEqual(picture(fleet), "...")
        fleet.robots = [Robot(2, False, [2]), Robot(1, True)]
        self.assertEqual(picture(fleet), ".X0")
        self.assertEqual(sign_at(fleet, 1), "X")
        fleet.robots = [Robot(0, False, [0, 1, 2])]
        self.assertEqual(way_picture(fleet, 0), "0**")
        self.assertEqual(picture(Fleet(floor_of([], [], []), robots=1)), "")

    def test_places_by_hand(self):
        floor = Floor([[], []], [0], [], [(1, 3), (2, 0)])
        fleet = Fleet(floor, robots=1)
        fleet.robots = [Robot(2), Robot(0, False, [0])]
        self.assertEqual(picture(fleet), "####\n###1\n.###")

    def test_by_the_words(self):
        for _, _, fleet in walks(seeds=2):
            before = rows_of(fleet)
            self.assertEqual(picture(fleet), plain_picture(fleet))
            for robot in range(len(fleet.robots)):
                stars = fleet.robots[robot].way[1:]
                self.assertEqual(way_picture(fleet, robot), plain_picture(fleet, stars))
            for cell in range(fleet.floor.size):
                row, column = fleet.floor.places[cell]
                self.assertEqual(sign_at(fleet, cell), picture(fleet).split("\n")[row][column])
            self.assertEqual(rows_of(fleet), before)

    def test_the_walls_of_the_map(self):
        for text in STAGES:
            found = picture(Fleet(read_floor(text), robots=1))
            self.assertEqual(found, "".join(sign if sign in "#\n" else "." for sign in text))


class WayPictureTest(unittest.TestCase):
    def test_stars_but_for_the_first_cell(self):
        fleet = made(CROSS, [(0, False, [0, 2, 1]), (3, False, [3])])
        self.assertEqual(way_picture(fleet, 0), "#0#\n**1")
        self.assertEqual(way_picture(fleet, 1), "#0#\n..1")
        self.assertEqual(picture(fleet), "#0#\n..1")

    def test_without_a_way(self):
        fleet = made(CROSS, [(4,), (0, True), (2, False, [2, 3]), (4, True)])
        for robot in (0, 1, 3):
            self.assertEqual(way_picture(fleet, robot), "#X#\n.2.")
        self.assertEqual(way_picture(fleet, 2), "#X#\n.2*")

    def test_a_long_way_around_a_wall(self):
        fleet = made("A..+\n.##.\n...B", [(4, False, [4, 6, 7, 8, 9, 5, 3]), (0, True)])
        self.assertEqual(way_picture(fleet, 0), "X..*\n0##*\n****")

    def test_a_star_and_another_robot_on_one_cell(self):
        # No events lead to this: the ways of two robots have no cell in common.
        fleet = made(CROSS, [(0, False, [0, 2, 1]), (2, False, [2, 3]), (1, True)])
        self.assertEqual(way_picture(fleet, 0), "#0#\n**.")
        self.assertEqual(way_picture(fleet, 1), "#0#\nX1*")
        for _, _, fleet in walks(seeds=1):
            cells = [robot.place for robot in fleet.robots]
            self.assertFalse(any(cell in cells for robot in fleet.robots for cell in robot.way[1:]))

    def test_cells_beside_the_way_stay(self):
        fleet = made(FIELD, [(5, False, [5, 1])])
        self.assertEqual(way_picture(fleet, 0), ".*..\n.0..\n....")
