"""[73], [74], what [40] and [42] say of them, and clearfloor/serving.py in the interface."""

import random
import unittest

from clearfloor.acts import act_of, step_home
from clearfloor.analysis import keeps_promise, most_acts
from clearfloor.events import happen, run, why_not
from clearfloor.fleet import Fleet
from clearfloor.maps import read_floor
from clearfloor.serving import all_home, next_ready, one_home, serve
from walks import facts_fail, made, rows_of, walks

# The cells of CROSS: 0 is A, 1 a door, 2 the middle, 3 is B and a door; the depot is 4.
CROSS = "#A#\n+.b"
A, B = 0, 1
# Floors that bear one broken robot, or two.
STRONG = ["AA\n++\nBB", "A.A+\n+...\nB.B+", "AAA\n+++\nBBB"]


def new_fleet(text=CROSS, robots=2, patience=4):
    return Fleet(read_floor(text), robots=robots, patience=patience)


def robots_in_turn(fleet, turn):
    """The robots that have an act, in the order in which they are asked."""
    row = list(range(len(fleet.robots)))
    start = turn % len(row)
    return [robot for robot in row[start:] + row[:start] if act_of(fleet, robot) is not None]


def plain_serve(fleet, turn, count):
    """[73], put plainly."""
    gone = []
    done = sum(order.done for order in fleet.orders)
    while len(gone) < count and sum(order.done for order in fleet.orders) == done:
        ready = robots_in_turn(fleet, turn)
        if not ready:
            break
        fleet = happen(fleet, ("go", ready[0]))
        gone.append(ready[0])
        turn = ready[0] + 1
    return gone, fleet


class NextReadyTest(unittest.TestCase):
    def test_from_each_number(self):
        # The robots 1 and 3 can go home, 0 and 2 are idle in the depot, and 4 is broken.
        fleet = made(CROSS, [(4,), (1, False, [1]), (4,), (3, False, [3]), (0, True)])
        found = [next_ready(fleet, turn) for turn in range(5)]
        self.assertEqual(found, [1, 1, 3, 3, 1])

    def test_from_numbers_behind_the_last_robot(self):
        fleet = made(CROSS, [(4,), (1, False, [1]), (4,), (3, False, [3]), (0, True)])
        for turn in range(5, 40):
            self.assertEqual(next_ready(fleet, turn), [1, 1, 3, 3, 1][turn - turn // 5 * 5], turn)
        self.assertEqual(next_ready(fleet, 1000002), 3)

    def test_none(self):
        for fleet in (new_fleet(), made(CROSS, [(4, True), (0, True)]), made(CROSS, [])):
            for turn in range(4):
                self.assertIsNone(next_ready(fleet, turn))

    def test_over_walks(self):
        for _, _, fleet in walks(seeds=2):
            before = rows_of(fleet)
            for turn in range(2 * len(fleet.robots) + 1):
                ready = robots_in_turn(fleet, turn)
                self.assertEqual(next_ready(fleet, turn), ready[0] if ready else None)
            self.assertEqual(rows_of(fleet), before)


class ServeTest(unittest.TestCase):
    def test_until_one_more_order_is_done(self):
        fleet = run(new_fleet(), [("order", A, B)])
        gone, behind = serve(fleet, count=99)
        self.assertEqual(gone, [0] * 7)
        self.assertEqual(rows_of(behind)[0], [(3, False, [3]), (4, False, [])])
        self.assertEqual(rows_of(behind)[1], [(A, B, True, None, False)])

    def test_it_goes_on_with_the_next_order(self):
        fleet = run(new_fleet(robots=1), [("order", A, B), ("order", B, A)])
        gone, behind = serve(fleet, count=99)
        self.assertEqual((gone, behind.count_done()), ([0] * 7, 1))
        self.assertEqual(behind.orders[1].robot, 0)
        gone, behind = serve(behind, count=99)
        self.assertEqual((gone, behind.count_done()), ([0] * 4, 2))

    def test_its_count(self):
        fleet = run(new_fleet(), [("order", A, B)])
        for count in range(7):
            gone, behind = serve(fleet, count=count)
            self.assertEqual(gone, [0] * count)
            self.assertEqual(rows_of(behind), rows_of(run(fleet, [("go", 0)] * count)))
        self.assertEqual(serve(fleet, count=7)[1].count_done(), 1)
        self.assertEqual(serve(fleet, count=6)[1].count_done(), 0)

    def test_no_robot_has_an_act(self):
        fleet = new_fleet()
        gone, behind = serve(fleet, count=99)
        self.assertEqual((gone, rows_of(behind)), ([], rows_of(fleet)))
        fleet = made(CROSS, [(4,), (0, False, [0, 2, 1]), (3, True)])
        gone, behind = serve(fleet, count=99)
        self.assertEqual(gone, [1, 1, 1])
        self.assertEqual(rows_of(behind)[0], [(4, False, []), (4, False, []), (3, True, [])])
        self.assertEqual(serve(made(CROSS, []), count=9)[0], [])

    def test_the_number_that_the_next_turn_begins_with(self):
        # All robots can go home, one step or three.
        fleet = made("...+.", [(3, False, [3]), (4, False, [4]), (0, False, [0, 1, 2])])
        fleet.floor.doors = [2, 3, 4]
        self.assertEqual(serve(fleet, count=99)[0], [0, 1, 2, 2, 2])
        self.assertEqual(serve(fleet, turn=1, count=99)[0], [1, 2, 0, 2, 2])
        self.assertEqual(serve(fleet, turn=2, count=99)[0], [2, 0, 1, 2, 2])
        self.assertEqual(serve(fleet, turn=3, count=99)[0], [0, 1, 2, 2, 2])
        self.assertEqual(serve(fleet, turn=5, count=2)[0], [2, 0])

    def test_by_the_words(self):
        whole = 0
        for at, (_, _, fleet) in enumerate(walks(seeds=2)):
            before = rows_of(fleet)
            turn = at // 3 - at // 21 * 7
            for count in (0, 2, 30):
                gone, behind = serve(fleet, turn=turn, count=count)
                wanted, fleet_behind = plain_serve(fleet, turn, count)
                self.assertEqual((gone, rows_of(behind)), (wanted, rows_of(fleet_behind)))
                whole += behind.count_done() > fleet.count_done()
            self.assertEqual(rows_of(fleet), before)
        self.assertGreater(whole, 100)

    def test_the_fleet_that_was_handed_in_stays(self):
        fleet = run(new_fleet(), [("order", A, B)])
        before = rows_of(fleet)
        for count in (0, 1, 9):
            gone, behind = serve(fleet, count=count)
            gone.append(7)
            behind.robots[0].place = 9
            behind.robots[0].way.append(9)
            behind.orders[0].finish()
            behind.orders.clear()
            self.assertEqual(rows_of(fleet), before)


class PromiseTest(unittest.TestCase):
    """[42]: where the promise is kept, there is always an act, and one more order gets done."""

    def fleets(self):
        for text in STRONG:
            for robots in (2, 3, 4):
                for seed in range(4):
                    rng = random.Random(10 * seed + robots)
                    fleet = new_fleet(text, robots, seed + 1)
                    for _ in range(40):
                        fleet = self.later(fleet, rng)
                        yield fleet
        for _, _, fleet in walks(seeds=1):
            yield fleet

    def later(self, fleet, rng):
        """The fleet behind one event more, with at most two broken robots most of the time."""
        robot = rng.randrange(len(fleet.robots))
        events = [("order", A, B), ("order", B, A), ("go", robot), ("go", robot), ("go", robot), ("go", robot)]
        events += [("fail", robot)] * 2 if fleet.count_broken() < 2 else [("tow", robot)]
        event = rng.choice(events)
        return happen(fleet, event) if why_not(fleet, event) is None else fleet

    def test_some_robot_has_an_act_and_one_more_order_is_done(self):
        met = {}
        for fleet in self.fleets():
            broken = fleet.count_broken()
            floor, robots = fleet.floor, len(fleet.robots)
            if keeps_promise(floor, robots, broken) and fleet.first_open() < len(fleet.orders):
                met[broken] = met.get(broken, 0) + 1
                self.check_serves(fleet, met[broken] - met[broken] // 5 * 5)
        self.assertGreater(min(met.get(broken, 0) for broken in range(3)), 20, met)

    def check_serves(self, fleet, turn):
        self.assertIsNotNone(next_ready(fleet, turn))
        most = most_acts(fleet.floor, len(fleet.robots))
        gone, behind = serve(fleet, turn=turn, count=most)
        self.assertEqual(behind.count_done(), fleet.count_done() + 1)
        self.assertLessEqual(len(gone), most)
        self.assertIsNone(facts_fail(behind))

    def test_until_all_orders_are_done(self):
        for text in STRONG:
            fleet = new_fleet(text, 3)
            events = [("order", A, B), ("order", B, A), ("fail", 1), ("order", A, B), ("order", B, A), ("go", 0)]
            fleet = run(fleet, events)
            while fleet.first_open() < len(fleet.orders):
                done = fleet.count_done()
                _, fleet = serve(fleet, turn=done, count=most_acts(fleet.floor, 3))
                self.assertEqual(fleet.count_done(), done + 1)

    def test_it_is_not_so_where_the_promise_is_not_kept(self):
        # The only cell of A is below a broken robot.
        fleet = made(CROSS, [(0, True), (4,)], [(A, B, None, False)])
        self.assertFalse(keeps_promise(fleet.floor, 2, 1))
        self.assertEqual(serve(fleet, count=99)[0], [])


class HomeTest(unittest.TestCase):
    def rows(self, fleet, rng):
        """Rows in which each robot is named as often as there are cells."""
        robots = list(range(len(fleet.robots)))
        many = fleet.floor.size
        mixed = robots * many
        rng.shuffle(mixed)
        yield robots * many
        yield robots[::-1] * many
        yield [robot for robot in robots for _ in range(many)]
        yield [robot for robot in robots[::-1] for _ in range(many)]
        yield mixed

    def test_all_that_run_come_home(self):
        rng = random.Random(5)
        many = 0
        for _, _, fleet in walks(seeds=2):
            before = rows_of(fleet)
            for numbers in self.rows(fleet, rng):
                kept = list(numbers)
                behind = all_home(fleet, numbers)
                self.assertEqual(numbers, kept)
                self.check_home(fleet, behind)
            many += len(fleet.running()) > 1
            self.assertEqual(rows_of(fleet), before)
        self.assertGreater(many, 100)

    def check_home(self, fleet, behind):
        depot = fleet.floor.depot
        wanted = [(robot.place if robot.broken else depot, robot.broken, []) for robot in fleet.robots]
        self.assertEqual(rows_of(behind), (wanted,) + rows_of(fleet)[1:])
        self.assertEqual(behind.running(), [])

    def test_step_by_step_nothing_is_in_the_way(self):
        rng = random.Random(6)
        for _, _, fleet in walks(seeds=1):
            behind = fleet
            while behind.running():
                robot = rng.choice(behind.running())
                after = one_home(behind, robot)
                self.assertEqual(rows_of(after), rows_of(step_home(behind, robot)))
                self.assertEqual(rows_of(all_home(behind, [robot])), rows_of(after))
                self.assertIsNone(facts_fail(after))
                behind = after
            self.check_home(fleet, behind)

    def test_one_step(self):
        fleet = made(CROSS, [(0, False, [0, 2, 1]), (3, False, [3])], [(A, B, 0, True)])
        self.assertEqual(rows_of(one_home(fleet, 0))[0], [(2, False, [2, 1]), (3, False, [3])])
        self.assertEqual(rows_of(one_home(fleet, 1))[0], [(0, False, [0, 2, 1]), (4, False, [])])
        self.assertEqual(rows_of(one_home(fleet, 0))[1], [(A, B, False, 0, True)])

    def test_fewer_names(self):
        fleet = made(CROSS, [(0, False, [0, 2, 1]), (3, False, [3])])
        self.assertEqual(rows_of(all_home(fleet, [])), rows_of(fleet))
        self.assertEqual(rows_of(all_home(fleet, [0, 0]))[0], [(1, False, [1]), (3, False, [3])])
        self.assertEqual(rows_of(all_home(fleet, [0, 1, 0, 1, 0]))[0], [(4, False, []), (4, False, [])])
        self.assertEqual(rows_of(all_home(fleet, [1, 0]))[0], [(2, False, [2, 1]), (4, False, [])])

    def test_broken_robots_and_those_in_the_depot_are_passed_over(self):
        fleet = made(CROSS, [(0, True), (3, False, [3]), (4,), (4, True)])
        behind = all_home(fleet, [2, 0, 3, 1, 1, 2, 0, 3, 1])
        self.assertEqual(rows_of(behind)[0], [(0, True, []), (4, False, []), (4, False, []), (4, True, [])])

    def test_nobody_is_on_the_floor(self):
        fleet = made(CROSS, [(4,), (4, True)])
        for numbers in ([], [0], [1, 0, 1, 0] * 4):
            self.assertEqual(rows_of(all_home(fleet, numbers)), rows_of(fleet))
        self.assertEqual(rows_of(all_home(made(CROSS, []), [])), rows_of(made(CROSS, [])))

    def test_the_fleet_that_was_handed_in_stays(self):
        fleet = made(CROSS, [(0, False, [0, 2, 1]), (3, False, [3])], [(A, B, 0, True)])
        before = rows_of(fleet)
        for numbers in ([], [0], [0, 1] * 4):
            behind = all_home(fleet, numbers)
            behind.robots[0].place = 7
            behind.robots[1].way.append(7)
            behind.orders[0].finish()
            self.assertEqual(rows_of(fleet), before)
        behind = one_home(fleet, 0)
        behind.robots[1].way.append(7)
        self.assertEqual(rows_of(fleet), before)
