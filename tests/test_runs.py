"""[50], [51] and clearfloor/runs.py in the interface."""

import unittest

from clearfloor.assign import next_order
from clearfloor.events import happen, run, why_not
from clearfloor.fleet import Fleet
from clearfloor.maps import read_floor
from clearfloor.runs import chosen, drive, first_that_happens, mix, tries
from walks import STAGES, facts_fail, made, rows_of

# The cells of CROSS: 0 is A, 1 a door, 2 the middle, 3 is B and a door; the depot is 4.
CROSS = "#A#\n+.b"
THREE = "abc"
# Reckoned by another program with whole numbers of any size.
MIXED = [
    (0, 0, 3899542566),
    (0, 1, 1174505095),
    (1, 0, 3523769606),
    (1, 1, 1259324265),
    (5, 7, 2945858555),
    (4294967295, 0, 1710980072),
    (0, 4294967295, 3523769606),
    (4294967295, 4294967295, 1458240091),
    (2654435769, 0, 0),
    (123456789, 987654321, 3615485435),
    (2147483648, 2147483648, 3899542566),
    (0, 1640531527, 0),
    (0, 1640531526, 1365545505),
]


def new_fleet(text, robots, patience=4):
    return Fleet(read_floor(text), robots=robots, patience=patience)


def plain_mix(first, second):
    """[50], with all powers written out and no sign that LANGUAGE.md leaves out."""
    total = (second + 2654435769) & 0xFFFFFFFF
    turned = ((first ^ total) * 2246822507) & 0xFFFFFFFF
    return ((turned ^ (turned >> 15)) * 3266489909) & 0xFFFFFFFF


def plain_tries(fleet, seed, index, most):
    word = plain_mix(seed, index)
    a, s, r = word >> 4, len(fleet.floor.stations), len(fleet.robots)
    broken = sum(1 for robot in fleet.robots if robot.broken)
    events = []
    if word % 16 in (0, 1) and s:
        events.append(("order", a % s, a // s % s))
    if word % 16 == 2 and broken < most:
        events.append(("fail", a % (r + 1)))
    if word % 16 == 3:
        events.append(("tow", a % (r + 1)))
    events += [("go", robot) for robot in range(a % r, r)] + [("go", robot) for robot in range(a % r)]
    if s:
        events.append(("order", a % s, (a + 1) % s))
    return events + [("tow", robot) for robot in range(r)]


class MixTest(unittest.TestCase):
    def test_values_reckoned_apart(self):
        for first, second, wanted in MIXED:
            self.assertEqual(mix(first, second), wanted, (first, second))

    def test_the_result_lies_from_0_to_4294967295(self):
        found = set()
        numbers = [0, 1, 2, 15, 16, 4294967295, 4294967294, 2147483647, 2147483648, 2654435769, 1640531527, 1640531526]
        for first in numbers + list(range(100, 130)):
            for second in numbers + list(range(40)):
                word = mix(first, second)
                self.assertIsInstance(word, int)
                self.assertTrue(0 <= word <= 4294967295)
                self.assertEqual(word, plain_mix(first, second), (first, second))
                found.add(word)
        self.assertGreater(len(found), 400)
        self.assertGreater(max(found), 4200000000)


class ChosenTest(unittest.TestCase):
    def test_each_remainder(self):
        fleet = new_fleet(THREE, 4)
        for a in (0, 1, 2, 3, 4, 5, 7, 11, 12, 268435455):
            for remainder in range(16):
                wanted = []
                if remainder in (0, 1):
                    wanted = [("order", a % 3, a // 3 % 3)]
                if remainder == 2:
                    wanted = [("fail", a % 5)]
                if remainder == 3:
                    wanted = [("tow", a % 5)]
                self.assertEqual(chosen(fleet, 16 * a + remainder, 1), wanted, (a, remainder))

    def test_examples(self):
        fleet = new_fleet(THREE, 2)
        self.assertEqual(chosen(fleet, 16 * 5, 0), [("order", 2, 1)])
        self.assertEqual(chosen(fleet, 16 * 5 + 1, 0), [("order", 2, 1)])
        self.assertEqual(chosen(fleet, 16 * 5 + 2, 1), [("fail", 2)])
        self.assertEqual(chosen(fleet, 16 * 5 + 3, 0), [("tow", 2)])
        self.assertEqual(chosen(fleet, 16 * 5 + 4, 9), [])
        self.assertEqual(chosen(fleet, 16 * 5 + 15, 9), [])

    def test_without_a_station(self):
        fleet = new_fleet("+.", 2)
        found = [chosen(fleet, 16 * 4 + remainder, 1) for remainder in range(16)]
        self.assertEqual(found, [[], [], [("fail", 1)], [("tow", 1)]] + [[]] * 12)

    def test_as_many_broken_robots_as_may_be(self):
        for broken in range(4):
            fleet = made(CROSS, [(4, robot < broken) for robot in range(3)])
            for most in range(5):
                wanted = [("fail", 3)] if broken < most else []
                self.assertEqual(chosen(fleet, 16 * 3 + 2, most), wanted, (broken, most))

    def test_broken_robots_on_the_floor_count_as_well(self):
        fleet = made(CROSS, [(0, True), (4,)])
        self.assertEqual(chosen(fleet, 16 + 2, 1), [])
        self.assertEqual(chosen(fleet, 16 + 2, 2), [("fail", 1)])

    def test_a_robot_and_a_station_that_no_fleet_has_may_be_chosen(self):
        fleet = new_fleet(CROSS, 1)
        self.assertEqual(chosen(fleet, 16 + 2, 1), [("fail", 1)])
        self.assertEqual(chosen(fleet, 16 + 3, 1), [("tow", 1)])
        self.assertEqual(chosen(fleet, 16 * 3, 1), [("order", 1, 1)])


class TriesTest(unittest.TestCase):
    def check(self, text, robots, seed, index, most):
        fleet = new_fleet(text, robots)
        found = tries(fleet, seed, index, most=most)
        self.assertEqual(found, plain_tries(fleet, seed, index, most), (text, robots, seed, index))
        return found

    def test_in_the_order_of_the_document(self):
        for text in STAGES + ["+.", "A+", THREE]:
            for robots in (1, 2, 3, 12):
                for seed in (0, 1, 4294967295):
                    for index in range(25):
                        self.check(text, robots, seed, index, 1)

    def test_examples(self):
        # The words were reckoned by another program, like those above.
        fleet = new_fleet(THREE, 3)
        tows = [("tow", 0), ("tow", 1), ("tow", 2)]
        # 1159919088 is 16 * 72494943 and 0.
        wanted = [("order", 0, 2), ("go", 0), ("go", 1), ("go", 2), ("order", 0, 1)]
        self.assertEqual(tries(fleet, 0, 3, most=0), wanted + tows)
        # 2826162850 is 16 * 176635178 and 2.
        wanted = [("fail", 2), ("go", 2), ("go", 0), ("go", 1), ("order", 2, 0)]
        self.assertEqual(tries(fleet, 0, 20, most=1), wanted + tows)
        self.assertEqual(tries(fleet, 0, 20, most=0), wanted[1:] + tows)
        # 1018172179 is 16 * 63635761 and 3.
        wanted = [("tow", 1), ("go", 1), ("go", 2), ("go", 0), ("order", 1, 2)]
        self.assertEqual(tries(fleet, 0, 15, most=0), wanted + tows)
        # 3899542566 is 16 * 243721410 and 6.
        wanted = [("go", 0), ("go", 1), ("go", 2), ("order", 0, 1)]
        self.assertEqual(tries(fleet, 0, 0, most=1), wanted + tows)

    def test_without_a_station(self):
        for index in range(40):
            words = [event[0] for event in self.check("+.", 2, 7, index, 1)]
            self.assertNotIn("order", words)
            self.assertEqual(words[-4:], ["go", "go", "tow", "tow"])

    def test_it_depends_on_the_broken_robots_and_the_most(self):
        indexes = [index for index in range(99) if plain_mix(3, index) % 16 == 2]
        for index in indexes:
            fleet = made(CROSS, [(4, True), (4,)])
            self.assertEqual(len(tries(fleet, 3, index, most=1)), 5)
            found = tries(fleet, 3, index, most=2)
            self.assertEqual((len(found), found[0][0]), (6, "fail"))
        self.assertTrue(indexes)


class FirstThatHappensTest(unittest.TestCase):
    def test_the_first_event_that_can_happen(self):
        fleet = new_fleet(CROSS, 2)
        events = [("go", 0), ("order", 0, 0), ("tow", 1), ("order", 1, 0), ("fail", 0)]
        event, behind = first_that_happens(fleet, events)
        self.assertEqual(event, ("order", 1, 0))
        self.assertEqual(rows_of(behind), rows_of(happen(fleet, event)))
        self.assertEqual(first_that_happens(fleet, events[::-1])[0], ("fail", 0))

    def test_none(self):
        fleet = new_fleet(CROSS, 2)
        self.assertIsNone(first_that_happens(fleet, []))
        self.assertIsNone(first_that_happens(fleet, [("go", 0), ("tow", 1), ("order", 0, 2), ("fail", 2)]))

    def test_what_is_handed_in_stays(self):
        fleet = new_fleet(CROSS, 2)
        events = [("go", 0), ("fail", 1)]
        _, behind = first_that_happens(fleet, events)
        behind.robots[0].way.append(3)
        behind.robots[0].place = 1
        self.assertEqual(rows_of(fleet), rows_of(new_fleet(CROSS, 2)))
        self.assertEqual(events, [("go", 0), ("fail", 1)])


class DriveTest(unittest.TestCase):
    def test_each_event_is_the_first_one_that_can_happen(self):
        words = {}
        for text in STAGES:
            for robots, most, seed in ((1, 0, 1), (2, 1, 2), (3, 1, 4294967295), (4, 2, 77)):
                fleet = new_fleet(text, robots)
                events, behind = drive(fleet, seed=seed, most=most, count=80)
                self.assertEqual(len(events), 80)
                self.check_events(fleet, events, behind, seed, most)
                for event in events:
                    words[event[0]] = words.get(event[0], 0) + 1
        self.assertEqual(sorted(words), ["fail", "go", "order", "tow"])

    def check_events(self, fleet, events, behind, seed, most):
        for index, event in enumerate(events):
            tried = plain_tries(fleet, seed, index, most)
            reasons = [why_not(fleet, each) for each in tried]
            self.assertEqual(event, tried[reasons.index(None)], (seed, index))
            fleet = happen(fleet, event)
            self.assertLessEqual(fleet.count_broken(), most)
            self.assertIsNone(facts_fail(fleet))
            self.assertIsNone(next_order(fleet))
        self.assertEqual(rows_of(fleet), rows_of(behind))

    def test_it_begins_with_the_fleet_that_is_handed_in(self):
        fleet = run(new_fleet(CROSS, 2, 1), [("order", 0, 1), ("order", 1, 0), ("fail", 1), ("go", 0)])
        events, behind = drive(fleet, seed=9, most=2, count=30)
        self.check_events(fleet, events, behind, 9, 2)
        self.assertEqual(behind.patience, 1)

    def test_it_ends_by_its_count(self):
        fleet = new_fleet(CROSS, 2)
        whole, _ = drive(fleet, seed=5, most=1, count=40)
        for count in (0, 1, 2, 7, 39):
            events, behind = drive(fleet, seed=5, most=1, count=count)
            self.assertEqual(events, whole[:count])
            self.assertEqual(rows_of(behind), rows_of(run(fleet, events)))
        self.assertEqual(len(whole), 40)

    def test_it_ends_where_nothing_can_happen(self):
        fleet = new_fleet("+.", 2)
        events, behind = drive(fleet, seed=1, most=0, count=50)
        self.assertEqual((events, rows_of(behind)), ([], rows_of(fleet)))
        fleet = made("+.+", [(1, False, [1, 0]), (3,)])
        events, behind = drive(fleet, seed=1, most=0, count=50)
        self.assertEqual(events, [("go", 0), ("go", 0)])
        self.assertEqual([robot.place for robot in behind.robots], [3, 3])
        # One station: an order from it to itself cannot happen.
        self.assertEqual(drive(new_fleet("A+", 3), seed=4, most=0, count=9)[0], [])

    def test_broken_robots_are_towed_where_nothing_else_can_happen(self):
        fleet = made("+.", [(2, True), (0, True), (2,)])
        events, behind = drive(fleet, seed=2, most=0, count=50)
        self.assertEqual(sorted(events), [("tow", 0), ("tow", 1)])
        self.assertEqual(rows_of(behind)[0], [(2, False, [])] * 3)

    def test_seeds_differ_and_runs_repeat(self):
        fleet = new_fleet("a..b\n....\n.CC.", 4)
        rows = [drive(fleet, seed=seed, most=1, count=40)[0] for seed in range(8)]
        self.assertEqual(len({str(row) for row in rows}), 8)
        self.assertEqual([drive(fleet, seed=seed, most=1, count=40)[0] for seed in range(8)], rows)

    def test_the_fleet_that_was_handed_in_stays(self):
        fleet = run(new_fleet(CROSS, 3), [("order", 0, 1), ("go", 0), ("fail", 2)])
        before = rows_of(fleet)
        for count in (0, 1, 30):
            events, behind = drive(fleet, seed=3, most=2, count=count)
            events.append(9)
            for robot in behind.robots:
                robot.way.append(9)
                robot.place = 9
            for order in behind.orders:
                order.finish()
            behind.robots.clear()
            behind.orders.clear()
            self.assertEqual(rows_of(fleet), before)
