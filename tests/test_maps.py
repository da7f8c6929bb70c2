"""[4] to [11] and clearfloor/maps.py in the interface."""

import unittest

from clearfloor.errors import MapError
from clearfloor.floors import Floor
from clearfloor.maps import check_map, format_map, read_floor, read_rows

MAPS = [
    ("+", ["+"]),
    ("a", ["a"]),
    ("#A#\n+.b", ["#A#", "+.b"]),
    ("#A#\n+.b\n", ["#A#", "+.b"]),
    ("\n\n#A#\n\n+.b\n\n\n", ["#A#", "+.b"]),
    (" # A\t#\t\n \t \n\t+. b ", ["#A#", "+.b"]),
    ("  +  ", ["+"]),
    ("\t+", ["+"]),
    ("+\n ", ["+"]),
    ("#\n+\n#", ["#", "+", "#"]),
    ("hGfEdCbA", ["hGfEdCbA"]),
    ("AaAa", ["AaAa"]),
]


class GoodMapsTest(unittest.TestCase):
    def test_check_map_gives_none(self):
        for text, _ in MAPS:
            self.assertIsNone(check_map(text), repr(text))

    def test_read_rows_gives_just_the_rows(self):
        for text, rows in MAPS:
            self.assertEqual(read_rows(text), rows, repr(text))

    def test_format_map_joins_the_rows(self):
        for text, rows in MAPS:
            self.assertEqual(format_map(text), "\n".join(rows), repr(text))

    def test_the_written_form_of_the_written_form_is_itself(self):
        for text, _ in MAPS:
            written = format_map(text)
            self.assertEqual(format_map(written), written)
            self.assertEqual(read_rows(written), read_rows(text))

    def test_every_tile(self):
        text = "#.+ABCDEFGHabcdefgh"
        rows = [text[:10], text[10:] + "#"]
        self.assertIsNone(check_map("\n".join(rows)))
        self.assertEqual(read_rows("\n".join(rows)), rows)

    def test_largest_maps(self):
        rows = ["+" + "." * 14 + "#"] + ["#" * 8 + "." * 7 + "#"] * 15
        self.assertEqual(sum(len(row) - row.count("#") for row in rows), 120)
        text = "\n".join(rows) + "\n \n"
        self.assertIsNone(check_map(text))
        self.assertEqual(read_rows(text), rows)

    def test_walls_behind_120_cells(self):
        text = "\n".join(["+" * 12] * 10 + ["#" * 12])
        self.assertIsNone(check_map(text))

    def test_rows_are_new(self):
        rows = read_rows("+.\n..")
        rows.append("x")
        self.assertEqual(read_rows("+.\n.."), ["+.", ".."])


FAULTS = [
    # [9], behind the last character
    ("", (1, 1, "map is empty")),
    (" ", (1, 2, "map is empty")),
    ("\t\t ", (1, 4, "map is empty")),
    ("\n", (2, 1, "map is empty")),
    ("\n\n\n", (4, 1, "map is empty")),
    (" \n\t\n  ", (3, 3, "map is empty")),
    (".", (1, 2, "door is missing")),
    ("#", (1, 2, "door is missing")),
    ("A", (1, 2, "door is missing")),
    ("H.#\n", (2, 1, "door is missing")),
    (".\n.\n\n  ", (4, 3, "door is missing")),
    ("B", (1, 2, "door is missing")),
    ("b", (1, 2, "station A is missing")),
    ("+B", (1, 3, "station A is missing")),
    ("+AC", (1, 4, "station B is missing")),
    ("+AC\n", (2, 1, "station B is missing")),
    ("h", (1, 2, "station A is missing")),
    ("aBcDeFH", (1, 8, "station G is missing")),
    ("+ADH \t", (1, 7, "station B is missing")),
    ("Ac\n.d", (2, 3, "station B is missing")),
    # [7], at a line feed and at the end of the text
    ("....\n...\n", (2, 4, "row has 3 tiles, expected 4")),
    ("....\n...", (2, 4, "row has 3 tiles, expected 4")),
    ("....\n ..\t. \n....", (2, 7, "row has 3 tiles, expected 4")),
    ("..\n..\n\n+", (4, 2, "row has 1 tiles, expected 2")),
    ("..\n+\n..\n!", (2, 2, "row has 1 tiles, expected 2")),
    ("++\n+  ", (2, 4, "row has 1 tiles, expected 2")),
    (" ++ \n\n ..\n + \t\n", (4, 5, "row has 1 tiles, expected 2")),
    ("..\n.", (2, 2, "row has 1 tiles, expected 2")),
    # [8], one by one
    ("!", (1, 1, "unexpected character")),
    ("+\n..\n?", (2, 2, "row is longer than 1")),
    ("+.\n.?", (2, 2, "unexpected character")),
    ("+ .\t0", (1, 5, "unexpected character")),
    ("+.@", (1, 3, "unexpected character")),
    ("+.[", (1, 3, "unexpected character")),
    ("+.`", (1, 3, "unexpected character")),
    ("+.{", (1, 3, "unexpected character")),
    ("+.,", (1, 3, "unexpected character")),
    ("+./", (1, 3, "unexpected character")),
    ("+.\"", (1, 3, "unexpected character")),
    ("+.$", (1, 3, "unexpected character")),
    ("+.*", (1, 3, "unexpected character")),
    ("+.-", (1, 3, "unexpected character")),
    ("+\r\n.", (1, 2, "unexpected character")),
    ("+\x0b", (1, 2, "unexpected character")),
    ("+\x0c", (1, 2, "unexpected character")),
    ("+\u00e9", (1, 2, "unexpected character")),
    ("+\u0391", (1, 2, "unexpected character")),
    ("+\u00a0", (1, 2, "unexpected character")),
    ("+\u2028.", (1, 2, "unexpected character")),
    ("+\x85.", (1, 2, "unexpected character")),
    ("....\n.....", (2, 5, "row is longer than 4")),
    ("....\n\n. . . .\t.", (3, 9, "row is longer than 4")),
    ("+\n+\n+\n++\n+", (4, 2, "row is longer than 1")),
    ("+I", (1, 2, "more than 8 stations")),
    ("+.Z", (1, 3, "more than 8 stations")),
    ("+i", (1, 2, "more than 8 stations")),
    ("z", (1, 1, "more than 8 stations")),
    ("+\nM", (2, 1, "more than 8 stations")),
    ("+" * 17, (1, 17, "more than 16 columns")),
    (" " * 3 + "# " * 17, (1, 36, "more than 16 columns")),
    ("+" * 16 + "\n" + "+" * 17, (2, 17, "row is longer than 16")),
    ("+\n" * 16 + "+", (17, 1, "more than 16 rows")),
    ("\n+\n" * 16 + " \t\n  #", (34, 3, "more than 16 rows")),
    (("+" * 12 + "\n") * 10 + "#.", (11, 2, "more than 120 cells")),
    (("+" * 12 + "\n") * 10 + "A", (11, 1, "more than 120 cells")),
    (("+" * 12 + "\n") * 10 + "+", (11, 1, "more than 120 cells")),
    (("+" * 12 + "\n") * 10 + "h", (11, 1, "more than 120 cells")),
    (("+" * 15 + "#\n") * 8 + "# . ", (9, 3, "more than 120 cells")),
]

ORDER_AT_ONE_CHARACTER = [
    # the first check that fails is the fault: each row fails also later checks of [8]
    ("+\n" * 16 + "!", (17, 1, "unexpected character")),
    ("++\n" * 16 + "I", (17, 1, "more than 16 rows")),
    ("+" * 16 + "!", (1, 17, "unexpected character")),
    ("+" * 16 + "J", (1, 17, "more than 16 columns")),
    ("+\n.!", (2, 2, "unexpected character")),
    ("+\n.K", (2, 2, "row is longer than 1")),
    ("+" * 16 + "\n" + "+" * 16 + "I", (2, 17, "row is longer than 16")),
    (("+" * 12 + "\n") * 10 + "!", (11, 1, "unexpected character")),
    (("+" * 12 + "\n") * 10 + "I", (11, 1, "more than 8 stations")),
    (("+" * 12 + "\n") * 10 + "#" * 12 + ".", (11, 13, "row is longer than 12")),
    (("+" * 8 + "\n") * 15 + "#" * 8 + "\n.", (17, 1, "more than 16 rows")),
]

FIRST_PLACE_COUNTS = [
    # a fault further in front counts, whatever its check
    ("+.\n.\n!", (2, 2, "row has 1 tiles, expected 2")),
    ("!\n..\n.", (1, 1, "unexpected character")),
    ("B\nBB", (2, 2, "row is longer than 1")),
    ("....\n..", (2, 3, "row has 2 tiles, expected 4")),
    ("BB\nB", (2, 2, "row has 1 tiles, expected 2")),
    ("BI!", (1, 2, "more than 8 stations")),
]


class FaultsTest(unittest.TestCase):
    def check_all(self, faults):
        for text, fault in faults:
            self.assertEqual(check_map(text), fault, repr(text))

    def test_each_problem_with_its_place(self):
        self.check_all(FAULTS)

    def test_the_order_of_the_checks_at_one_character(self):
        self.check_all(ORDER_AT_ONE_CHARACTER)

    def test_the_first_fault_of_the_text_counts(self):
        self.check_all(FIRST_PLACE_COUNTS)

    def test_every_other_sign_is_unexpected(self):
        tiles = "#.+ABCDEFGHIJKLMNOPQRSTUVWXYZabcdefghijklmnopqrstuvwxyz \t\n"
        for number in range(0, 400):
            sign = chr(number)
            if sign not in tiles:
                self.assertEqual(check_map("+." + sign), (1, 3, "unexpected character"), number)

    def test_every_letter_behind_h_is_too_late(self):
        for sign in "IJKLMNOPQRSTUVWXYZijklmnopqrstuvwxyz":
            self.assertEqual(check_map("+" + sign), (1, 2, "more than 8 stations"), sign)

    def test_each_missing_station(self):
        letters = "ABCDEFGH"
        for at in range(7):
            text = "+" + letters[:at] + letters[at + 1:]
            self.assertEqual(check_map(text), (1, 9, f"station {letters[at]} is missing"))
        for many in range(1, 9):
            self.assertIsNone(check_map("+" + letters[:many]))

    def test_limits_are_not_one_less(self):
        self.assertIsNone(check_map("+\n" * 16))
        self.assertIsNone(check_map("+" * 16))
        self.assertIsNone(check_map(("+" * 12 + "\n") * 10))
        self.assertIsNone(check_map("+H" + "ABCDEFG"))

    def test_readers_raise_the_same_fault(self):
        for reader in (read_rows, format_map, read_floor):
            for text, fault in FAULTS + ORDER_AT_ONE_CHARACTER + FIRST_PLACE_COUNTS:
                with self.assertRaises(MapError) as caught:
                    reader(text)
                error = caught.exception
                self.assertEqual((error.line, error.column, error.problem), fault, repr(text))

    def test_two_calls_agree(self):
        for text, fault in FAULTS[:5]:
            self.assertEqual(check_map(text), check_map(text))


def beside(one, other):
    return abs(one[0] - other[0]) + abs(one[1] - other[1]) == 1


class ReadFloorTest(unittest.TestCase):
    def test_example_of_the_document(self):
        floor = read_floor("#A#\n+.b")
        self.assertIsInstance(floor, Floor)
        self.assertEqual(floor.places, [(0, 1), (1, 0), (1, 1), (1, 2)])
        self.assertEqual(floor.near, [[2], [2], [0, 1, 3], [2]])
        self.assertEqual(floor.doors, [1, 3])
        self.assertEqual(floor.stations, [[0], [3]])
        self.assertEqual(floor.size, 4)
        self.assertEqual(floor.depot, 4)

    def test_places_count_rows_and_tiles(self):
        floor = read_floor("\n \n#\tA #\n\n\n + . b\n")
        self.assertEqual(floor.places, [(0, 1), (1, 0), (1, 1), (1, 2)])
        self.assertEqual(floor.near, [[2], [2], [0, 1, 3], [2]])
        self.assertEqual(floor.doors, [1, 3])
        self.assertEqual(floor.stations, [[0], [3]])

    def test_one_cell(self):
        floor = read_floor("+")
        self.assertEqual((floor.near, floor.doors, floor.stations), ([[]], [0], []))
        self.assertEqual((floor.places, floor.size, floor.depot), ([(0, 0)], 1, 1))

    def test_all_neighbors_of_a_square(self):
        floor = read_floor("...\n.+.\n...")
        self.assertEqual(floor.near[4], [1, 3, 5, 7])
        self.assertEqual(floor.near[0], [1, 3])
        self.assertEqual(floor.near[2], [1, 5])
        self.assertEqual(floor.near[6], [3, 7])
        self.assertEqual(floor.near[8], [5, 7])

    def test_cells_over_walls_and_line_ends_are_no_neighbors(self):
        floor = read_floor("+#.\n#..")
        self.assertEqual(floor.places, [(0, 0), (0, 2), (1, 1), (1, 2)])
        self.assertEqual(floor.near, [[], [3], [3], [1, 2]])

    def test_stations_with_several_cells_and_doors(self):
        floor = read_floor("aB.\nbA+\n..a")
        self.assertEqual(floor.stations, [[0, 4, 8], [1, 3]])
        self.assertEqual(floor.doors, [0, 3, 5, 8])

    def test_eight_stations(self):
        floor = read_floor("HGFE\ndcba")
        self.assertEqual(floor.stations, [[7], [6], [5], [4], [3], [2], [1], [0]])
        self.assertEqual(floor.doors, [4, 5, 6, 7])

    def test_floors_keep_the_rules(self):
        for text, rows in MAPS + [("+.\n..\n#.\n.a", ["+.", "..", "#.", ".a"])]:
            floor = read_floor(text)
            places = [(row, column) for row in range(len(rows)) for column in range(len(rows[0]))]
            self.assertEqual(floor.places, [(r, c) for r, c in places if rows[r][c] != "#"])
            self.assertEqual(floor.size, len(floor.places))
            self.assertEqual(floor.depot, floor.size)
            for cell in range(floor.size):
                near = [other for other in range(floor.size) if beside(floor.places[cell], floor.places[other])]
                self.assertEqual(floor.near[cell], near)
            signs = [rows[r][c] for r, c in floor.places]
            doors = [cell for cell, sign in enumerate(signs) if sign in "+abcdefgh"]
            self.assertEqual(floor.doors, doors)
            for number, cells in enumerate(floor.stations):
                letter = "ABCDEFGH"[number]
                self.assertEqual(cells, [cell for cell, sign in enumerate(signs) if sign.upper() == letter])

    def test_floors_of_two_calls_share_nothing(self):
        first = read_floor("#A#\n+.b")
        first.near[0].append(9)
        first.doors.append(9)
        first.stations[0].append(9)
        first.places.append((9, 9))
        second = read_floor("#A#\n+.b")
        self.assertEqual(second.near, [[2], [2], [0, 1, 3], [2]])
        self.assertEqual(second.doors, [1, 3])
        self.assertEqual(second.stations, [[0], [3]])
        self.assertEqual(len(second.places), 4)
