"""[11] to [13] and clearfloor/floors.py in the interface."""

import unittest

from clearfloor.floors import Floor, floor_of
from clearfloor.maps import read_floor

NEAR = [[1, 2], [0], [0, 3], [2]]
DOORS = [1, 2]
STATIONS = [[0, 3], [1]]
PLACES = [(0, 0), (0, 1), (1, 0), (2, 0)]


def made():
    return Floor([list(cells) for cells in NEAR], list(DOORS), [list(cells) for cells in STATIONS], list(PLACES))


class FieldsTest(unittest.TestCase):
    def test_fields(self):
        floor = made()
        self.assertEqual(floor.near, NEAR)
        self.assertEqual(floor.doors, DOORS)
        self.assertEqual(floor.stations, STATIONS)
        self.assertEqual(floor.places, PLACES)
        self.assertEqual(floor.size, 4)
        self.assertEqual(floor.depot, 4)

    def test_the_lists_are_copied(self):
        near = [list(cells) for cells in NEAR]
        doors = list(DOORS)
        stations = [list(cells) for cells in STATIONS]
        places = list(PLACES)
        floor = Floor(near, doors, stations, places)
        near[0].append(3)
        near.append([])
        doors.append(3)
        stations[1].append(2)
        stations.append([2])
        places.append((5, 5))
        self.assertEqual(floor.near, NEAR)
        self.assertEqual(floor.doors, DOORS)
        self.assertEqual(floor.stations, STATIONS)
        self.assertEqual(floor.places, PLACES)
        self.assertEqual(floor.size, 4)
        self.assertEqual(floor.around(0), [1, 2])
        self.assertEqual(floor.around(3), [2])
        self.assertEqual(floor.around(4), [1, 2])
        self.assertIsNone(floor.station("C"))
        self.assertIsNone(floor.cell_at(5, 5))

    def test_the_lists_that_are_passed_in_stay(self):
        near = [list(cells) for cells in NEAR]
        doors = list(DOORS)
        stations = [list(cells) for cells in STATIONS]
        places = list(PLACES)
        floor = Floor(near, doors, stations, places)
        floor.around(1).append(7)
        floor.around(4).append(7)
        floor.near[0].append(7)
        floor.doors.append(7)
        floor.stations[0].append(7)
        floor.stations.append([7])
        floor.places.append((7, 7))
        self.assertEqual((near, doors, stations, places), (NEAR, DOORS, STATIONS, PLACES))


class AroundTest(unittest.TestCase):
    def test_a_cell_without_a_door(self):
        floor = made()
        self.assertEqual(floor.around(0), [1, 2])
        self.assertEqual(floor.around(3), [2])

    def test_a_cell_at_a_door_has_the_depot_last(self):
        floor = made()
        self.assertEqual(floor.around(1), [0, 4])
        self.assertEqual(floor.around(2), [0, 3, 4])

    def test_the_depot_has_the_doors(self):
        self.assertEqual(made().around(4), [1, 2])
        self.assertEqual(floor_of([[]], [], []).around(1), [])

    def test_what_around_returned_may_be_changed(self):
        floor = made()
        for position in range(5):
            before = floor.around(position)
            changed = floor.around(position)
            changed.append(99)
            changed.reverse()
            self.assertEqual(floor.around(position), before)
        self.assertEqual((floor.near, floor.doors), (NEAR, DOORS))


class PlacesTest(unittest.TestCase):
    def test_place_of_cells_and_of_the_depot(self):
        floor = made()
        self.assertEqual([floor.place(cell) for cell in range(4)], PLACES)
        self.assertIsNone(floor.place(4))

    def test_cell_at_cells(self):
        floor = made()
        for cell, (row, column) in enumerate(PLACES):
            self.assertEqual(floor.cell_at(row, column), cell)

    def test_cell_at_walls_and_outside(self):
        floor = read_floor("#A#\n+.b")
        self.assertEqual(floor.cell_at(0, 1), 0)
        self.assertEqual(floor.cell_at(1, 2), 3)
        for row, column in [(0, 0), (0, 2), (2, 0), (1, 3), (-1, 1), (1, -1), (-1, -1), (40, 40)]:
            self.assertIsNone(floor.cell_at(row, column), (row, column))

    def test_row_and_column_are_not_exchanged(self):
        floor = read_floor("+..")
        self.assertEqual(floor.place(2), (0, 2))
        self.assertEqual(floor.cell_at(0, 2), 2)
        self.assertIsNone(floor.cell_at(2, 0))

    def test_the_depot_of_a_map_has_no_place(self):
        floor = read_floor("#A#\n+.b")
        self.assertIsNone(floor.place(floor.depot))


class StationTest(unittest.TestCase):
    def test_letters_with_a_station(self):
        floor = made()
        self.assertEqual(floor.station("A"), 0)
        self.assertEqual(floor.station("B"), 1)

    def test_letters_without_a_station(self):
        floor = made()
        for letter in "CDEFGHIJKLMNOPQRSTUVWXYZ":
            self.assertIsNone(floor.station(letter), letter)
        self.assertIsNone(read_floor("+").station("A"))

    def test_all_eight_letters(self):
        floor = read_floor("hGfEdCbA")
        self.assertEqual([floor.station(letter) for letter in "ABCDEFGH"], [0, 1, 2, 3, 4, 5, 6, 7])
        self.assertEqual([floor.station(letter) for letter in "IZ"], [None, None])


class FloorOfTest(unittest.TestCase):
    def test_all_cells_lie_in_row_0(self):
        floor = floor_of(NEAR, DOORS, STATIONS)
        self.assertIsInstance(floor, Floor)
        self.assertEqual(floor.places, [(0, 0), (0, 1), (0, 2), (0, 3)])
        self.assertEqual([floor.place(cell) for cell in range(4)], floor.places)
        self.assertEqual(floor.cell_at(0, 3), 3)
        self.assertIsNone(floor.cell_at(1, 0))
        self.assertIsNone(floor.cell_at(0, 4))
        self.assertIsNone(floor.place(4))

    def test_the_rest_is_as_given(self):
        floor = floor_of(NEAR, DOORS, STATIONS)
        self.assertEqual((floor.near, floor.doors, floor.stations), (NEAR, DOORS, STATIONS))
        self.assertEqual((floor.size, floor.depot), (4, 4))
        self.assertEqual(floor.around(2), [0, 3, 4])

    def test_the_lists_are_copied(self):
        near = [[1], [0]]
        doors = [0]
        stations = [[0], [1]]
        floor = floor_of(near, doors, stations)
        near[0].append(5)
        doors.append(1)
        stations[0].append(1)
        self.assertEqual((floor.near, floor.doors, floor.stations), ([[1], [0]], [0], [[0], [1]]))

    def test_a_floor_without_cells(self):
        floor = floor_of([], [], [])
        self.assertEqual((floor.size, floor.depot, floor.places, floor.around(0)), (0, 0, [], []))

    def test_a_floor_that_no_map_has(self):
        ring = floor_of([[1, 2], [0, 2], [0, 1]], [1], [[0, 1], [0]])
        self.assertEqual(ring.around(1), [0, 2, 3])
        self.assertEqual(ring.stations, [[0, 1], [0]])
