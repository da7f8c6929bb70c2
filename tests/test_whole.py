"""The facts of the document, together, on warehouses behind long rows of changes.

[25] [39] [40] [42] [44] [47] [64], and the texts of maps, logs and reports, each read back.
"""

import random
import unittest

from checks import cuts_off
from clearfloor.analysis import analyze, keeps_promise, strength
from clearfloor.assign import next_order
from clearfloor.games import weakness
from clearfloor.house import Warehouse, opened
from clearfloor.journal import Journal
from clearfloor.log import read_log
from clearfloor.maps import format_map, read_floor
from clearfloor.papers import is_safe, is_served
from clearfloor.pictures import picture
from clearfloor.reports import read_report, write_report
from clearfloor.serving import all_home, next_ready, serve
from clearfloor.waiting import waits
from clearfloor.ways import most_ways
from houses import answers, kept, records, states, without_journal
from walks import STAGES, facts_fail, rows_of

HALL = "A....B\n......\n.#..#.\n......\nA.++.B\n.+..+."
YARD = "AA..BB\n+....+\n+.CC.+"
PLACES = STAGES + [HALL, YARD, "AA\n++\nBB"]


class WholeTest(unittest.TestCase):
    def houses(self):
        """Warehouses with journals, behind each of some changes by chance."""
        for text in PLACES:
            for robots, patience in ((1, 1), (2, 4), (4, 2), (6, 20)):
                rng = random.Random(robots)
                house = kept(text, robots=robots, patience=patience)
                for _ in range(12):
                    self.change(house, rng)
                    yield house

    def change(self, house, rng):
        robot = rng.randrange(len(house.fleet.robots))
        stations = list("ABC"[:len(house.floor.stations)])
        rng.shuffle(stations)
        word = rng.choice(["drive"] * 3 + ["order", "order", "robot", "robot", "robot", "undo", "pack", "replay"])
        if word == "drive":
            house.drive(seed=rng.randrange(2 ** 32), most=2, count=rng.randrange(12))
        elif word == "order":
            house.order(stations[0], stations[1])
        elif word == "undo":
            house.undo()
        elif word == "pack" and rng.randrange(3) == 0:
            house.pack()
        elif word == "replay":
            house.replay("order A B\norder B A")
        elif house.act(robot) is not None:
            house.go(robot)
        elif house.fleet.robots[robot].broken:
            house.tow(robot)
        else:
            house.fail(robot)

    def test_fleets_are_safe_and_served(self):
        for house in self.houses():
            self.assertTrue(is_safe(house.fleet))
            self.assertTrue(is_served(house.fleet))
            self.assertIsNone(facts_fail(house.fleet))
            self.assertIsNone(next_order(house.fleet))

    def test_all_that_run_can_go_home(self):
        rng = random.Random(1)
        for house in self.houses():
            numbers = list(range(len(house.fleet.robots))) * house.floor.size
            rng.shuffle(numbers)
            behind = all_home(house.fleet, numbers)
            self.assertEqual(behind.running(), [])
            for robot, own in zip(behind.robots, house.fleet.robots):
                self.assertEqual(robot.place, own.place if own.broken else house.floor.depot)
            # Nobody who runs is on the floor any more, so only the broken robots are drawn.
            self.assertEqual(set(picture(behind)) - set("#.\n"), {"X"} if behind.closed() else set())

    def test_where_the_promise_is_kept_the_work_goes_on(self):
        many = 0
        for house in self.houses():
            fleet = house.fleet
            if keeps_promise(house.floor, len(fleet.robots), fleet.count_broken()):
                if fleet.first_open() < len(fleet.orders):
                    many += 1
                    self.assertIsNotNone(next_ready(fleet, 0))
                    gone, behind = serve(fleet, turn=many, count=house.bound())
                    self.assertEqual(behind.count_done(), fleet.count_done() + 1)
                self.check_effort(house)
            else:
                self.check_weakness(house)
        self.assertGreater(many, 100)

    def check_effort(self, house):
        for robot in house.ready():
            name, _ = house.act(robot)
            if name != "unload":
                twin = without_journal(house)
                twin.go(robot)
                self.assertLess(twin.effort(), house.effort())

    def check_weakness(self, house):
        floor, fleet = house.floor, house.fleet
        station, cut = weakness(floor, len(fleet.robots), fleet.count_broken())
        if station is None:
            self.assertLessEqual(len(fleet.robots), fleet.count_broken())
        else:
            self.assertLessEqual(len(cut), fleet.count_broken())
            self.assertTrue(cuts_off(floor, [], floor.stations[station], floor.doors, cut))

    def test_cells_that_hang_and_cuts_of_stations(self):
        for text in PLACES:
            floor = read_floor(text)
            for robots in (1, 2, 12):
                least = strength(floor, robots)
                bears, found, hanging = analyze(floor, robots)
                self.assertEqual(bears, least - 1 if least else None)
                for cells, (ways, cut) in zip(floor.stations, found):
                    self.assertEqual((ways, cut), most_ways(floor, [], cells, floor.doors))
                    self.assertEqual(len(ways), len(cut))
                    self.assertTrue(cuts_off(floor, [], cells, floor.doors, cut))
                for cell in range(floor.size):
                    self.assertEqual(strength(floor, robots, [cell]), least - (cell in hanging))

    def test_told_cuts(self):
        many = 0
        for house in self.houses():
            for robot in range(len(house.fleet.robots)):
                found = waits(house.fleet, robot)
                for position, why, _, cut in found[1] if found else []:
                    self.assertNotEqual(position, house.floor.depot)
                    if why == "trapped":
                        many += 1
                        self.check_cut(house.fleet, robot, position, cut)
        self.assertGreater(many, 5)

    def check_cut(self, fleet, robot, position, cut):
        cells = [fleet.robots[other].place for other in fleet.running() if other != robot] + [position]
        self.assertLess(len(cut), len(cells))
        self.assertTrue(cuts_off(fleet.floor, fleet.closed(), cells, fleet.floor.doors, cut))

    def test_texts_are_read_back(self):
        for house in self.houses():
            self.assertEqual(read_log(house.log()), house.events)
            rows = (house.robot_rows(), house.order_rows())
            self.assertEqual(read_report(write_report(rows[0], rows[1])), rows)
            text = records(house)[0].partition("\n")[2]
            self.assertEqual(format_map(text), text)
            self.assertEqual(read_floor(text).places, house.floor.places)

    def test_what_is_opened_is_what_was_there(self):
        for house in self.houses():
            other = opened(Journal(house.journal.device))
            self.assertEqual((states(other), answers(other)), (states(house), answers(house)))
            anew = Warehouse(format_map(records(house)[0].partition("\n")[2]), robots=len(house.fleet.robots),
                             patience=house.fleet.patience)
            for line in house.log().split("\n") if house.log() else []:
                anew.replay(line)
            self.assertEqual(rows_of(anew.fleet), rows_of(house.fleet))

    def test_a_map_of_the_greatest_size(self):
        text = "\n".join(["A......B"] + ["........"] * 12 + ["...CC...", "++++++++"])
        house = kept(text, robots=12, patience=20)
        self.assertEqual(house.floor.size, 120)
        for seed in range(8):
            house.drive(seed=seed, most=3, count=60)
            self.assertIsNone(facts_fail(house.fleet))
            self.assertTrue(is_safe(house.fleet) and is_served(house.fleet))
        self.assertGreater(house.fleet.count_done(), 3)
        other = opened(Journal(house.journal.device))
        self.assertEqual((states(other), answers(other)), (states(house), answers(house)))
