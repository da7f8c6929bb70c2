"""[76] to [79] and clearfloor/reports.py in the interface."""

import itertools
import unittest

from clearfloor.errors import ClearfloorError, LineError
from clearfloor.house import Warehouse
from clearfloor.reports import read_report, write_report
from walks import STAGES

EXAMPLE = "robot 0 0:1 runs loaded 2 way 0:1 0:0"
EXAMPLE_ROW = ((0, 1), False, 2, True, [(0, 1), (0, 0)])
ROBOTS = [
    (((0, 1), False, None, False, []), "0:1 runs"),
    (((15, 3), True, None, False, []), "15:3 broken"),
    ((None, False, None, False, []), "depot runs"),
    ((None, True, None, False, []), "depot broken"),
    (((0, 1), False, None, False, [(0, 1)]), "0:1 runs way 0:1"),
    (((2, 0), False, None, False, [(2, 0), (1, 0), (10, 12)]), "2:0 runs way 2:0 1:0 10:12"),
    ((None, False, 0, False, []), "depot runs empty 0"),
    ((None, False, 12, True, []), "depot runs loaded 12"),
    (((4, 4), False, 199, False, [(4, 4), (4, 5)]), "4:4 runs empty 199 way 4:4 4:5"),
    (((4, 4), False, 7, True, [(4, 4)]), "4:4 runs loaded 7 way 4:4"),
    (((999999, 0), False, 999999, True, [(0, 999999)]), "999999:0 runs loaded 999999 way 0:999999"),
]
ORDERS = [
    (("A", "B", False, None, False), "A B waits"),
    (("B", "A", True, None, False), "B A done"),
    (("H", "A", False, 0, False), "H A empty 0"),
    (("A", "H", False, 11, True), "A H loaded 11"),
    (("C", "G", False, 999999, False), "C G empty 999999"),
]
LETTERS = list("ABCDEFGH")
NO_NUMBERS = ["00", "01", "007", "000000", "1000000", "0000001", "-1", "+1", "-0", "1.0", "0x1", "1_0", "1,0", "a", ""]
NO_NUMBERS += ["\u0663", "\u00b2", "\uff11", "1\u0660", "#", "None", "1\t", "\t1", "1\r", "1\v", "\u00a01"]


def bent(line):
    """Lines that differ from a line by little."""
    words = line.split(" ")
    lines = [" " + line, line + " ", "\t" + line, line + "\t", line + "\r", line + ".", line.upper() + "!"]
    for at, word in enumerate(words):
        ahead, behind = words[:at], words[at + 1:]
        lines.append(" ".join(ahead + ["", word] + behind))
        lines.append(" ".join(ahead + [word + "x"] + behind))
        lines.append(" ".join(ahead + ["x" + word] + behind))
        lines.append(" ".join(ahead + ["way", "x"] + behind))
        if word.upper() != word:
            lines += [" ".join(ahead + [word.upper()] + behind), " ".join(ahead + [word.capitalize()] + behind)]
        if word.lower() != word:
            lines.append(" ".join(ahead + [word.lower()] + behind))
        if at > 0:
            lines.append("\t".join([" ".join(ahead), " ".join([word] + behind)]))
            lines.append("".join([" ".join(ahead), " ".join([word] + behind)]))
            lines.append("\u00a0".join([" ".join(ahead), " ".join([word] + behind)]))
        if behind and not (":" in word and ":" in behind[0]) and not (word in LETTERS and behind[0] in LETTERS):
            lines.append(" ".join(ahead + [behind[0], word] + behind[1:]))
    return [each for each in lines if each != line]


class WriteTest(unittest.TestCase):
    def test_the_example(self):
        self.assertEqual(write_report([EXAMPLE_ROW], []), EXAMPLE)

    def test_the_line_of_each_robot(self):
        for row, words in ROBOTS:
            self.assertEqual(write_report([row], []), "robot 0 " + words)

    def test_the_line_of_each_order(self):
        for row, words in ORDERS:
            self.assertEqual(write_report([], [row]), "order 0 " + words)

    def test_no_rows(self):
        self.assertEqual(write_report([], []), "")

    def test_lines_with_their_numbers(self):
        robots = [row for row, _ in ROBOTS]
        orders = [row for row, _ in ORDERS]
        lines = [f"robot {at} {words}" for at, (_, words) in enumerate(ROBOTS)]
        lines += [f"order {at} {words}" for at, (_, words) in enumerate(ORDERS)]
        self.assertEqual(write_report(robots, orders), "\n".join(lines))
        self.assertEqual(write_report(robots, []), "\n".join(lines[:len(ROBOTS)]))
        self.assertEqual(write_report([], orders), "\n".join(lines[len(ROBOTS):]))

    def test_lists_that_are_handed_in_stay(self):
        row = ((0, 1), False, 2, True, [(0, 1), (0, 0)])
        robots, orders = [row], [("A", "B", False, 0, True)]
        write_report(robots, orders)
        self.assertEqual((robots, orders), ([EXAMPLE_ROW], [("A", "B", False, 0, True)]))


class ReadTest(unittest.TestCase):
    def check_read(self, robots, orders):
        text = write_report(robots, orders)
        found = read_report(text)
        self.assertIsInstance(found, tuple)
        self.assertEqual(found, (robots, orders), text)
        for row in found[0]:
            self.assertEqual([bool, bool, list], [type(row[1]), type(row[3]), type(row[4])])
            self.assertTrue(all(type(place) is tuple for place in row[4]))
            self.assertIsInstance(row, tuple)
        for row in found[1]:
            self.assertIsInstance(row, tuple)
            self.assertEqual([bool, bool], [type(row[2]), type(row[4])])

    def test_the_example(self):
        self.assertEqual(read_report(EXAMPLE), ([EXAMPLE_ROW], []))

    def test_the_empty_string(self):
        self.assertEqual(read_report(""), ([], []))

    def test_each_line(self):
        for row, words in ROBOTS:
            self.assertEqual(read_report("robot 0 " + words), ([row], []))
        for row, words in ORDERS:
            self.assertEqual(read_report("order 0 " + words), ([], [row]))

    def test_all_rows_that_can_be_written(self):
        places = [None, (0, 0), (3, 15)]
        errands = [(None, False), (0, False), (0, True), (120, False), (120, True)]
        ways = [[], [(0, 0)], [(3, 15), (3, 14), (2, 14)]]
        robots = []
        for place, broken, (order, loaded), way in itertools.product(places, (False, True), errands, ways):
            robots.append((place, broken, order, loaded, way))
        orders = []
        states = [(True, None, False), (False, None, False), (False, 0, False), (False, 11, True), (False, 100, False)]
        for start, goal, (done, robot, loaded) in itertools.product("ABCDEFGH", "ABCDEFGH", states):
            orders.append((start, goal, done, robot, loaded))
        for row in robots:
            self.check_read([row], [])
        for row in orders:
            self.check_read([], [row])
        self.check_read(robots, orders)
        self.check_read(robots, [])
        self.check_read([], orders)

    def test_the_reports_of_warehouses(self):
        many = 0
        for text in STAGES:
            for robots, seed in ((1, 1), (2, 2), (3, 3), (12, 4)):
                house = Warehouse(text, robots=robots)
                for step in range(12):
                    house.drive(seed=100 * seed + step, most=1, count=4)
                    self.check_read(house.robot_rows(), house.order_rows())
                    many += len(house.order_rows())
        self.assertGreater(many, 500)

    def test_lists(self):
        for _ in range(2):
            robots, orders = read_report(EXAMPLE + "\norder 0 A B done")
            self.assertEqual((robots, orders), ([EXAMPLE_ROW], [("A", "B", True, None, False)]))
            robots[0][4].append(9)
            robots.append(9)
            orders.append(9)


class FaultTest(unittest.TestCase):
    def check_fault(self, text, line):
        with self.assertRaises(LineError, msg=repr(text)) as caught:
            read_report(text)
        self.assertEqual(caught.exception.line, line, repr(text))
        self.assertIsInstance(caught.exception, ClearfloorError)

    def check_line(self, line):
        """A line that is none, alone and among others."""
        self.check_fault(line, 1)
        self.check_fault(line + "\nrobot 0 depot runs", 1)
        self.check_fault("robot 0 depot runs\n" + line, 2)
        self.check_fault("robot 0 depot runs\norder 0 A B done\n" + line + "\n" + line, 3)

    def good_lines(self):
        return ["robot 0 " + words for _, words in ROBOTS] + ["order 0 " + words for _, words in ORDERS]

    def test_lines_that_differ_by_little(self):
        many = 0
        for line in self.good_lines():
            for wrong in bent(line):
                self.check_fault(wrong, 1)
                self.check_fault("robot 0 depot runs\n" + wrong.replace(" 0 ", " 1 ", 1) + "\nx", 2)
                many += 1
        self.assertGreater(many, 300)

    def test_a_word_missing_at_the_end_or_within(self):
        for line in self.good_lines():
            words = line.split(" ")
            for at in range(len(words)):
                short = " ".join(words[:at] + words[at + 1:])
                # Without some words a line is another good line; these are tried apart.
                if at < 4 or line.startswith("order"):
                    self.check_fault(short, 1)
        lines = ["robot", "robot 0", "robot 0 depot", "robot 0 0:1", "robot 0 runs", "robot depot runs", "0 depot runs"]
        lines += ["robot 0 depot runs loaded", "robot 0 depot runs empty", "robot 0 depot runs 3", "robot 0 depot loaded 3"]
        lines += ["robot 0 0:1 runs loaded way 0:1", "robot 0 0:1 runs empty way 0:1", "robot 0 0:1 runs 2 way 0:1"]
        lines += ["robot 0 0:1 runs loaded 2 0:1", "robot 0 0:1 runs 0:1", "robot 0 0:1 way 0:1"]
        lines += ["order", "order 0", "order 0 A", "order 0 A B", "order 0 A done", "order 0 B waits", "order A B done"]
        lines += ["order 0 A B empty", "order 0 A B loaded", "order 0 A B 1", "0 A B done", "A B done"]
        for line in lines:
            self.check_line(line)

    def test_way_without_places(self):
        for line in ("0:1 runs way", "0:1 runs loaded 2 way", "depot broken way", "0:1 runs way ", "0:1 runs empty 2 way "):
            self.check_line("robot 0 " + line)

    def test_a_further_word(self):
        for line in self.good_lines():
            for word in ("x", "done", "way", "waits", "runs", "0", "depot", "loaded", "0:"):
                self.check_line(line + " " + word)
        for line in ("order 0 A B done 0", "order 0 A B waits 0", "order 0 A B done empty 0", "order 0 A B empty 0 0"):
            self.check_line(line)
        for line in ("0:1 runs loaded 2 empty 3", "0:1 runs loaded 2 loaded 2", "0:1 runs way 0:1 way 0:1"):
            self.check_line("robot 0 " + line)
        for line in ("0:1 runs broken", "0:1 broken runs", "0:1 runs way 0:1 loaded 2", "0:1 runs 0:1 way 0:1"):
            self.check_line("robot 0 " + line)

    def test_numbers(self):
        for number in NO_NUMBERS:
            for line in ("robot 0 depot runs loaded {}", "robot 0 depot runs empty {}", "robot 0 {}:1 runs"):
                self.check_line(line.format(number))
            for line in ("robot 0 1:{} runs", "robot 0 1:1 runs way {}:1", "robot 0 1:1 runs way 1:1 1:{}"):
                self.check_line(line.format(number))
            for line in ("robot {} depot runs", "order {} A B done"):
                self.check_line(line.format(number))
            for line in ("order 0 A B loaded {}", "order 0 A B empty {}"):
                self.check_line(line.format(number))
        text = "robot 0 depot runs\nrobot {} depot runs"
        for number in NO_NUMBERS:
            self.check_fault(text.format(number), 2)
        self.assertEqual(len(read_report(text.format("1"))[0]), 2)

    def test_letters(self):
        for letter in ("I", "Z", "a", "h", "AB", "", "1", "@", "[", "-", "\u00c4", "\uff21", "\u0391", "ABCDEFGH"):
            for line in ("order 0 {} B done", "order 0 A {} done", "order 0 {} A waits", "order 0 A {} empty 1"):
                self.check_line(line.format(letter))
        for first in "ABCDEFGH":
            self.assertEqual(read_report(f"order 0 {first} A done")[1][0][0], first)

    def test_places(self):
        for place in ("0", "01", "0:1:2", "0:", ":1", ":", "::", "0:1:", ":0:1", "0;1", "0.1", "(0,1)", "Depot", "DEPOT"):
            self.check_line(f"robot 0 {place} runs")
            self.check_line(f"robot 0 0:1 runs way {place}")
            self.check_line(f"robot 0 0:1 runs way 0:1 {place}")
            self.check_line(f"robot 0 0:1 runs way {place} 0:1")
        for line in ("robot 0 0:1 runs way depot", "robot 0 depot runs way 0:1 depot", "robot 0 None runs"):
            self.check_line(line)

    def test_a_number_that_is_not_the_next_one(self):
        self.check_fault("robot 1 depot runs", 1)
        self.check_fault("order 1 A B done", 1)
        self.check_fault("robot 0 depot runs\nrobot 0 depot runs", 2)
        self.check_fault("robot 0 depot runs\nrobot 2 depot runs", 2)
        self.check_fault("robot 0 depot runs\nrobot 1 depot runs\nrobot 0 depot runs", 3)
        self.check_fault("robot 0 depot runs\norder 1 A B done", 2)
        self.check_fault("order 0 A B done\norder 0 A B done", 2)
        self.check_fault("order 0 A B done\norder 2 A B done", 2)
        self.check_fault("robot 0 depot runs\norder 0 A B done\norder 1 B A done\norder 3 A B done", 4)

    def test_a_robot_behind_an_order(self):
        self.check_fault("order 0 A B done\nrobot 0 depot runs", 2)
        self.check_fault("robot 0 depot runs\norder 0 A B done\nrobot 1 depot runs\norder 1 A B done", 3)
        self.check_fault("order 0 A B done\norder 1 A B done\nrobot 0 depot runs", 3)

    def test_line_feeds(self):
        for text in (EXAMPLE, "order 0 A B done"):
            self.check_fault(text + "\n", 2)
            self.check_fault("\n" + text, 1)
            self.check_fault(text + "\n\n", 2)
            self.check_fault(text + "\n\n" + text, 2)
        self.check_fault("\n", 1)
        self.check_fault("robot 0 depot runs\n\nrobot 1 depot runs", 2)
        self.check_fault("robot 0 depot runs\nrobot 1 depot runs\n", 3)
        self.check_fault("robot 0 depot runs\r\nrobot 1 depot runs", 1)
        self.check_fault("robot 0 depot runs\vrobot 1 depot runs", 1)
        self.check_fault("robot 0 depot runs robot 1 depot runs", 1)

    def test_other_lines(self):
        for line in (" ", "  ", "\t", "x", "order A B", "go 0", "undo", "log", "robots 0 depot runs", "orders 0 A B done"):
            self.check_line(line)
        self.check_line("order 0 depot runs")
        self.check_line("robot 0 A B done")

    def test_the_first_fault_counts(self):
        self.check_fault("robot 0 depot runs\nrobot 1\nrobot 7\nx", 2)
        self.check_fault("x\ny", 1)
