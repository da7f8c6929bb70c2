"""[82] to [86] and clearfloor/dispatch.py in the interface."""

import random
import unittest

from clearfloor.acts import act_of
from clearfloor.dispatch import Dispatch
from clearfloor.errors import ClearfloorError, RefusedError
from clearfloor.events import happen, run
from clearfloor.fleet import Fleet
from clearfloor.maps import read_floor
from clearfloor.radio import Radio
from clearfloor.unit import Unit
from walks import STAGES, facts_fail, rows_of

# The cells of CROSS: 0 is A, 1 a door, 2 the middle, 3 is B and a door; the depot is 4.
CROSS = "#A#\n+.b"
A, B = 0, 1


def new(robots=2, text=CROSS, patience=4):
    return Dispatch(read_floor(text), robots=robots, patience=patience)


def plain(events, robots=2, text=CROSS):
    """What a fleet holds behind events, without a dispatcher."""
    return rows_of(run(Fleet(read_floor(text), robots=robots), events))


def deliver_all(dispatch):
    while dispatch.deliver(0):
        pass


def act(dispatch, robot):
    """A whole act, with all letters."""
    name = dispatch.command(robot)
    deliver_all(dispatch)
    return name


class DispatchTest(unittest.TestCase):
    def check(self, dispatch, events, robots=2):
        """The fleet is as it is behind these events."""
        self.assertEqual(rows_of(dispatch.fleet), plain(events, robots))

    def begun(self, robots=2):
        """A dispatcher with the order A to B, and the first command to the robot 0 pending and on its way."""
        dispatch = new(robots)
        dispatch.order(A, B)
        self.assertEqual(dispatch.command(0), "on")
        self.assertEqual(dispatch.pending, ("move", 0, 0, 1, 1))
        return dispatch

    def hears(self, dispatch, letter):
        """Let a letter arrive at once, ahead of all others."""
        dispatch.radio.send(letter)
        self.assertIs(dispatch.deliver(len(dispatch.radio.letters) - 1), True)


class NewTest(DispatchTest):
    def test_a_new_dispatcher(self):
        floor = read_floor(CROSS)
        for robots in (1, 3):
            dispatch = Dispatch(floor, robots=robots, patience=2)
            self.assertIs(dispatch.fleet.floor, floor)
            self.assertEqual(rows_of(dispatch.fleet), rows_of(Fleet(floor, robots=robots, patience=2)))
            self.assertTrue(all(isinstance(unit, Unit) for unit in dispatch.units))
            told = [unit.told() for unit in dispatch.units]
            self.assertEqual(told, [("told", number, 0, 0, 4, True) for number in range(robots)])
            self.assertIsInstance(dispatch.radio, Radio)
            self.assertEqual((dispatch.radio.letters, dispatch.pending), ([], None))
        self.assertEqual(Dispatch(floor, robots=1).fleet.patience, 4)


class OrderTest(DispatchTest):
    def test_an_order_happens_at_once(self):
        dispatch = new()
        self.assertIsNone(dispatch.order(A, B))
        dispatch.order(B, A)
        self.check(dispatch, [("order", A, B), ("order", B, A)])
        self.assertEqual(dispatch.radio.letters, [])

    def check_refused(self, dispatch):
        before = rows_of(dispatch.fleet)
        for start, goal, reason in ((A, A, "same station"), (A, 2, "no such station"), (-1, B, "no such station")):
            with self.assertRaises(RefusedError) as caught:
                dispatch.order(start, goal)
            self.assertEqual((caught.exception.reason, caught.exception.line), (reason, 0))
            self.assertIsInstance(caught.exception, ClearfloorError)
        self.assertEqual(rows_of(dispatch.fleet), before)

    def test_a_refusal_while_none_is_pending(self):
        self.check_refused(new())

    def test_a_refusal_while_a_command_is_pending(self):
        dispatch = self.begun()
        self.check_refused(dispatch)
        deliver_all(dispatch)
        self.check(dispatch, [("order", A, B), ("go", 0)])

    def test_orders_wait_while_a_command_is_pending(self):
        dispatch = self.begun()
        dispatch.order(B, A)
        dispatch.order(A, B)
        self.check(dispatch, [("order", A, B)])
        dispatch.deliver(0)
        self.check(dispatch, [("order", A, B)])
        dispatch.deliver(0)
        self.check(dispatch, [("order", A, B), ("go", 0), ("order", B, A), ("order", A, B)])
        self.assertIsNone(dispatch.pending)
        dispatch.order(B, A)
        self.assertEqual(len(dispatch.fleet.orders), 4)


class CommandTest(DispatchTest):
    def test_a_step_needs_a_letter(self):
        dispatch = self.begun()
        self.assertEqual(dispatch.radio.letters, [("move", 0, 0, 1, 1)])
        self.check(dispatch, [("order", A, B)])
        self.assertTrue(dispatch.deliver(0))
        self.assertEqual(dispatch.units[0].position, 1)
        self.assertEqual(dispatch.radio.letters, [("told", 0, 0, 1, 1, True)])
        self.check(dispatch, [("order", A, B)])
        self.assertEqual(dispatch.pending, ("move", 0, 0, 1, 1))
        self.assertTrue(dispatch.deliver(0))
        self.check(dispatch, [("order", A, B), ("go", 0)])
        self.assertEqual((dispatch.pending, dispatch.radio.letters), (None, []))

    def test_each_act_of_an_order(self):
        dispatch = new()
        dispatch.order(A, B)
        moves = []
        names = []
        while dispatch.fleet.count_done() == 0:
            before = rows_of(dispatch.fleet)
            names.append(dispatch.command(0))
            if names[-1] in ("load", "unload"):
                self.assertEqual((dispatch.radio.letters, dispatch.pending), ([], None))
                self.assertNotEqual(rows_of(dispatch.fleet), before)
            else:
                self.assertEqual(dispatch.radio.letters, [dispatch.pending])
                self.assertEqual(rows_of(dispatch.fleet), before)
                moves.append(dispatch.pending)
                deliver_all(dispatch)
            self.check(dispatch, [("order", A, B)] + [("go", 0)] * len(names))
        self.assertEqual(names, ["on", "on", "on", "load", "on", "on", "unload"])
        positions = [1, 2, 0, 2, 3]
        self.assertEqual(moves, [("move", 0, 0, at + 1, place) for at, place in enumerate(positions)])
        self.assertEqual(dispatch.units[0].told(), ("told", 0, 0, 5, 3, True))

    def test_going_home_needs_a_letter(self):
        dispatch = new()
        dispatch.order(A, B)
        for _ in range(7):
            act(dispatch, 0)
        self.assertEqual(dispatch.command(0), "home")
        self.assertEqual(dispatch.pending, ("move", 0, 0, 6, 4))
        deliver_all(dispatch)
        self.assertEqual(dispatch.units[0].told(), ("told", 0, 0, 6, 4, True))
        self.assertEqual(dispatch.fleet.robots[0].place, 4)

    def test_nothing_to_do(self):
        dispatch = new()
        self.assertIsNone(dispatch.command(0))
        dispatch.order(A, B)
        self.assertIsNone(dispatch.command(1))
        self.assertEqual((dispatch.radio.letters, dispatch.pending), ([], None))
        self.check(dispatch, [("order", A, B)])

    def test_no_such_robot(self):
        dispatch = new()
        dispatch.order(A, B)
        dispatch.order(B, A)
        for robot in (-1, -2, 2, 99):
            self.assertIsNone(dispatch.command(robot))
        self.assertEqual((dispatch.radio.letters, dispatch.pending), ([], None))
        # Here the last robot of the list could go home.
        dispatch = new(1)
        dispatch.order(A, B)
        for _ in range(7):
            act(dispatch, 0)
        self.assertIsNone(dispatch.command(-1))
        self.assertEqual((dispatch.radio.letters, dispatch.pending), ([], None))
        self.assertEqual(dispatch.command(0), "home")

    def test_a_command_while_one_is_pending(self):
        dispatch = new()
        dispatch.order(A, B)
        for _ in range(3):
            act(dispatch, 0)
        dispatch.order(B, A)
        self.assertEqual(dispatch.fleet.orders[1].robot, 1)
        self.assertEqual(act_of(dispatch.fleet, 0)[0], "load")
        twin = new()
        twin.order(A, B)
        twin.command(0)
        twin.order(B, A)
        self.assertIsNone(twin.command(0))
        self.assertIsNone(twin.command(1))
        self.assertEqual(twin.radio.letters, [("move", 0, 0, 1, 1)])
        # Loading needs no letter, but it waits for a pending command like all acts.
        self.assertEqual(act(dispatch, 0), "load")
        self.assertEqual(dispatch.command(0), "on")
        self.assertIsNone(dispatch.command(0))

    def test_loading_while_a_command_is_pending(self):
        dispatch = new(2, "AA.\n+..\nb..")
        dispatch.order(A, B)
        dispatch.order(A, B)
        while act_of(dispatch.fleet, 0)[0] != "load":
            act(dispatch, 0)
        self.assertEqual(dispatch.command(1), "on")
        before = rows_of(dispatch.fleet)
        self.assertIsNone(dispatch.command(0))
        self.assertEqual(rows_of(dispatch.fleet), before)
        deliver_all(dispatch)
        self.assertEqual(dispatch.command(0), "load")

    def test_counts_go_on_by_robots(self):
        dispatch = new()
        dispatch.order(A, B)
        dispatch.order(B, A)
        self.assertEqual(act(dispatch, 0), "on")
        self.assertEqual(dispatch.command(1), "on")
        self.assertEqual(dispatch.pending[:4], ("move", 1, 0, 1))
        deliver_all(dispatch)
        self.assertEqual(dispatch.command(0), "on")
        self.assertEqual(dispatch.pending[:4], ("move", 0, 0, 2))


class LetterTest(DispatchTest):
    def test_deliver_at_an_index_that_there_is_not(self):
        dispatch = self.begun()
        for index in (-1, -2, 1, 2, 99):
            self.assertIs(dispatch.deliver(index), False)
        self.assertEqual(dispatch.radio.letters, [("move", 0, 0, 1, 1)])
        self.assertIs(new().deliver(0), False)
        self.assertIs(new().deliver(-1), False)

    def test_deliver_at_any_index(self):
        dispatch = self.begun()
        dispatch.ask(1)
        dispatch.ask(0)
        self.assertTrue(dispatch.deliver(1))
        self.assertTrue(dispatch.deliver(1))
        wanted = [("move", 0, 0, 1, 1), ("told", 1, 0, 0, 4, True), ("told", 0, 0, 0, 4, True)]
        self.assertEqual(dispatch.radio.letters, wanted)
        self.assertTrue(dispatch.deliver(2))
        self.assertTrue(dispatch.deliver(0))
        self.assertEqual(dispatch.radio.letters, [wanted[1], ("told", 0, 0, 1, 1, True)])

    def test_resend(self):
        dispatch = new()
        self.assertIs(dispatch.resend(), False)
        self.assertEqual(dispatch.radio.letters, [])
        dispatch = self.begun()
        self.assertIs(dispatch.resend(), True)
        self.assertEqual(dispatch.radio.letters, [dispatch.pending] * 2)
        dispatch.radio.lose(0)
        dispatch.radio.lose(0)
        self.assertIs(dispatch.resend(), True)
        deliver_all(dispatch)
        self.check(dispatch, [("order", A, B), ("go", 0)])
        self.assertIs(dispatch.resend(), False)

    def test_ask(self):
        dispatch = self.begun()
        self.assertIsNone(dispatch.ask(1))
        dispatch.ask(0)
        self.assertEqual(dispatch.radio.letters, [("move", 0, 0, 1, 1), ("ask", 1), ("ask", 0)])
        deliver_all(dispatch)
        self.check(dispatch, [("order", A, B), ("go", 0)])

    def test_a_doubled_command_is_done_once(self):
        dispatch = self.begun()
        dispatch.radio.double(0)
        deliver_all(dispatch)
        self.assertEqual(dispatch.units[0].told(), ("told", 0, 0, 1, 1, True))
        self.check(dispatch, [("order", A, B), ("go", 0)])

    def test_a_doubled_answer_counts_once(self):
        dispatch = self.begun()
        dispatch.deliver(0)
        dispatch.radio.double(0)
        deliver_all(dispatch)
        self.check(dispatch, [("order", A, B), ("go", 0)])

    def test_a_lost_answer(self):
        dispatch = self.begun()
        dispatch.deliver(0)
        dispatch.radio.lose(0)
        self.assertEqual(dispatch.pending, ("move", 0, 0, 1, 1))
        dispatch.ask(0)
        deliver_all(dispatch)
        self.assertIsNone(dispatch.pending)
        self.check(dispatch, [("order", A, B), ("go", 0)])

    def test_a_late_command(self):
        dispatch = self.begun()
        dispatch.radio.double(0)
        dispatch.deliver(0)
        dispatch.deliver(1)
        act(dispatch, 0)
        # The first command once more, behind the second one.
        self.assertEqual(dispatch.units[0].told(), ("told", 0, 0, 2, 2, True))
        self.check(dispatch, [("order", A, B), ("go", 0), ("go", 0)])


class HearTest(DispatchTest):
    def test_a_count_less_than_that_of_the_command_from_a_unit_that_works(self):
        dispatch = self.begun()
        self.hears(dispatch, ("told", 0, 0, 0, 4, True))
        self.assertEqual(dispatch.pending, ("move", 0, 0, 1, 1))
        self.check(dispatch, [("order", A, B)])

    def test_a_count_less_than_that_of_the_command_from_a_unit_that_does_not_work(self):
        dispatch = self.begun()
        dispatch.units[0].fail()
        self.assertEqual(dispatch.pending, ("move", 0, 0, 1, 1))
        deliver_all(dispatch)
        self.assertIsNone(dispatch.pending)
        self.check(dispatch, [("order", A, B), ("fail", 0)])
        self.assertEqual(dispatch.fleet.robots[0].place, 4)
        self.assertEqual(dispatch.units[0].told(), ("told", 0, 0, 0, 4, False))

    def test_the_count_of_a_dropped_command_is_not_used(self):
        dispatch = new()
        dispatch.order(A, B)
        act(dispatch, 0)
        self.assertEqual(dispatch.command(0), "on")
        self.assertEqual(dispatch.pending, ("move", 0, 0, 2, 2))
        self.hears(dispatch, ("told", 0, 0, 1, 1, False))
        self.assertIsNone(dispatch.pending)
        self.check(dispatch, [("order", A, B), ("go", 0), ("fail", 0)])
        # The robot 1 has the order now; its own count begins.
        self.assertEqual(dispatch.fleet.orders[0].robot, 1)
        self.assertEqual(dispatch.command(1), "on")
        self.assertEqual(dispatch.pending[:4], ("move", 1, 0, 1))

    def test_a_count_equal_to_that_of_the_command_from_a_unit_that_works(self):
        dispatch = self.begun()
        self.hears(dispatch, ("told", 0, 0, 1, 1, True))
        self.assertIsNone(dispatch.pending)
        self.check(dispatch, [("order", A, B), ("go", 0)])

    def test_a_count_equal_to_that_of_the_command_from_a_unit_that_does_not_work(self):
        dispatch = self.begun()
        dispatch.deliver(0)
        dispatch.radio.lose(0)
        dispatch.units[0].fail()
        dispatch.resend()
        deliver_all(dispatch)
        self.assertIsNone(dispatch.pending)
        self.check(dispatch, [("order", A, B), ("go", 0), ("fail", 0)])
        self.assertEqual(dispatch.fleet.robots[0].place, 1)

    def test_a_count_greater_than_that_of_the_command(self):
        dispatch = self.begun()
        self.hears(dispatch, ("told", 0, 0, 2, 1, True))
        self.assertEqual(dispatch.pending, ("move", 0, 0, 1, 1))
        self.check(dispatch, [("order", A, B)])

    def test_the_count_of_another_robot_that_works(self):
        dispatch = self.begun()
        for done in (0, 1, 2):
            self.hears(dispatch, ("told", 1, 0, done, 4, True))
        self.assertEqual(dispatch.pending, ("move", 0, 0, 1, 1))
        self.check(dispatch, [("order", A, B)])

    def test_another_robot_that_does_not_work(self):
        for done in (0, 1, 2):
            dispatch = self.begun()
            self.hears(dispatch, ("told", 1, 0, done, 4, False))
            self.assertEqual(dispatch.pending, ("move", 0, 0, 1, 1))
            self.check(dispatch, [("order", A, B)])
            deliver_all(dispatch)
            self.assertIsNone(dispatch.pending)
            self.check(dispatch, [("order", A, B), ("go", 0), ("fail", 1)])

    def test_a_failure_while_nothing_is_pending(self):
        dispatch = new()
        dispatch.order(A, B)
        act(dispatch, 0)
        for _ in range(2):
            self.hears(dispatch, ("told", 0, 0, 1, 1, False))
            self.check(dispatch, [("order", A, B), ("go", 0), ("fail", 0)])
        self.hears(dispatch, ("told", 1, 0, 0, 4, True))
        self.check(dispatch, [("order", A, B), ("go", 0), ("fail", 0)])

    def test_a_failure_that_is_told_twice_while_a_command_is_pending(self):
        dispatch = self.begun(3)
        for robot in (1, 2, 1, 1, 2):
            self.hears(dispatch, ("told", robot, 0, 0, 4, False))
        deliver_all(dispatch)
        self.check(dispatch, [("order", A, B), ("go", 0), ("fail", 1), ("fail", 2)], 3)

    def broken(self):
        """A dispatcher whose robot 0 is in its second life."""
        dispatch = new()
        dispatch.order(A, B)
        act(dispatch, 0)
        self.hears(dispatch, ("told", 0, 0, 1, 1, False))
        self.assertTrue(dispatch.repair(0))
        return dispatch

    def test_telling_of_an_earlier_life(self):
        dispatch = self.broken()
        events = [("order", A, B), ("go", 0), ("fail", 0), ("tow", 0)]
        for done in (0, 1, 2):
            for works in (True, False):
                self.hears(dispatch, ("told", 0, 0, done, 1, works))
        self.check(dispatch, events)
        self.assertEqual(act(dispatch, 1), "on")
        dispatch.order(B, A)
        self.assertEqual(dispatch.command(0), "on")
        self.assertEqual(dispatch.pending, ("move", 0, 1, 1, 3))
        for done in (0, 1, 2):
            for works in (True, False):
                self.hears(dispatch, ("told", 0, 0, done, 1, works))
        self.assertEqual(dispatch.pending, ("move", 0, 1, 1, 3))
        events += [("go", 1), ("order", B, A)]
        self.check(dispatch, events)
        deliver_all(dispatch)
        self.check(dispatch, events + [("go", 0)])

    def test_a_command_of_an_earlier_life_comes_to_the_unit_late(self):
        dispatch = self.begun()
        dispatch.radio.double(0)
        dispatch.units[0].fail()
        dispatch.deliver(0)
        dispatch.deliver(1)
        self.assertTrue(dispatch.repair(0))
        deliver_all(dispatch)
        self.assertEqual(dispatch.units[0].told(), ("told", 0, 1, 0, 4, True))
        self.check(dispatch, [("order", A, B), ("fail", 0), ("tow", 0)])

    def test_orders_and_failures_happen_in_their_order(self):
        dispatch = self.begun(3)
        dispatch.order(B, A)
        self.hears(dispatch, ("told", 1, 0, 0, 4, False))
        dispatch.order(A, B)
        self.hears(dispatch, ("told", 2, 0, 0, 4, False))
        self.check(dispatch, [("order", A, B)], 3)
        deliver_all(dispatch)
        events = [("order", A, B), ("go", 0), ("order", B, A), ("fail", 1), ("order", A, B), ("fail", 2)]
        self.check(dispatch, events, 3)

    def test_the_order_of_waiting_events_can_be_seen(self):
        # The new order goes to the robot 1 if it comes ahead of the failure of 1, and then to nobody else.
        for first in ("order", "fail"):
            dispatch = self.begun(3)
            if first == "order":
                dispatch.order(B, A)
            self.hears(dispatch, ("told", 2, 0, 0, 4, False))
            self.hears(dispatch, ("told", 1, 0, 0, 4, False))
            if first == "fail":
                dispatch.order(B, A)
            deliver_all(dispatch)
            order = [("order", B, A)]
            fails = [("fail", 2), ("fail", 1)]
            events = [("order", A, B), ("go", 0)] + (order + fails if first == "order" else fails + order)
            self.check(dispatch, events, 3)

    def test_what_waits_happens_ahead_of_the_failure_that_ends_the_waiting(self):
        for letter, events in (
            (("told", 0, 0, 0, 4, False), []),
            (("told", 0, 0, 1, 1, False), [("go", 0)]),
        ):
            dispatch = self.begun(2)
            self.hears(dispatch, ("told", 1, 0, 0, 4, False))
            dispatch.order(B, A)
            self.hears(dispatch, letter)
            self.assertIsNone(dispatch.pending)
            self.check(dispatch, [("order", A, B)] + events + [("fail", 1), ("order", B, A), ("fail", 0)])

    def test_events_that_wait_happen_when_a_command_is_dropped(self):
        dispatch = self.begun(3)
        dispatch.order(B, A)
        self.hears(dispatch, ("told", 1, 0, 0, 4, False))
        dispatch.units[0].fail()
        deliver_all(dispatch)
        self.check(dispatch, [("order", A, B), ("order", B, A), ("fail", 1), ("fail", 0)], 3)


class RepairTest(DispatchTest):
    def test_a_robot_that_runs(self):
        dispatch = new()
        for robot in (0, 1):
            self.assertIs(dispatch.repair(robot), False)
        self.check(dispatch, [])
        self.assertEqual(dispatch.units[0].lives, 0)
        # The unit does not work, but nobody has told of it.
        dispatch.units[0].fail()
        self.assertIs(dispatch.repair(0), False)
        self.assertEqual(dispatch.units[0].told(), ("told", 0, 0, 0, 4, False))

    def test_no_such_robot(self):
        dispatch = new()
        for robot in (0, 1):
            self.hears(dispatch, ("told", robot, 0, 0, 4, False))
        for robot in (-1, -2, 2, 99):
            self.assertIs(dispatch.repair(robot), False)
        self.check(dispatch, [("fail", 0), ("fail", 1)])

    def test_a_robot_that_is_broken(self):
        dispatch = new()
        dispatch.order(A, B)
        act(dispatch, 0)
        act(dispatch, 0)
        dispatch.units[0].fail()
        dispatch.ask(0)
        deliver_all(dispatch)
        events = [("order", A, B), ("go", 0), ("go", 0), ("fail", 0)]
        self.check(dispatch, events)
        self.assertIs(dispatch.repair(0), True)
        self.check(dispatch, events + [("tow", 0)])
        self.assertEqual(dispatch.units[0].told(), ("told", 0, 1, 0, 4, True))
        self.assertEqual(dispatch.radio.letters, [])
        self.assertIs(dispatch.repair(0), False)

    def test_the_counts_begin_anew(self):
        dispatch = new(1)
        dispatch.order(A, B)
        for life in range(3):
            for count in (1, 2):
                self.assertEqual(dispatch.command(0), "on")
                self.assertEqual(dispatch.pending[:4], ("move", 0, life, count))
                deliver_all(dispatch)
            dispatch.units[0].fail()
            dispatch.ask(0)
            deliver_all(dispatch)
            self.assertTrue(dispatch.repair(0))

    def test_while_a_command_is_pending(self):
        dispatch = new()
        dispatch.order(A, B)
        self.hears(dispatch, ("told", 1, 0, 0, 4, False))
        dispatch.units[1].fail()
        dispatch.command(0)
        for robot in (0, 1):
            self.assertIs(dispatch.repair(robot), False)
        self.assertEqual(dispatch.units[1].told(), ("told", 1, 0, 0, 4, False))
        deliver_all(dispatch)
        self.assertIs(dispatch.repair(1), True)
        self.check(dispatch, [("order", A, B), ("fail", 1), ("go", 0), ("tow", 1)])


class StormTest(DispatchTest):
    """[86], over long rows of deeds by chance."""

    def deed(self, dispatch, rng, wild):
        robots = len(dispatch.units)
        robot = rng.randrange(robots)
        stations = list(range(len(dispatch.fleet.floor.stations)))
        index = rng.randrange(max(1, len(dispatch.radio.letters)))
        words = ["command"] * 24 + ["deliver"] * 24 + ["lose", "double", "double"] * wild + ["ask", "resend"] * 4
        word = rng.choice(words + ["order"] * 4 + ["repair"] * 2 + ["fail"])
        if word == "command":
            dispatch.command(robot)
        elif word == "deliver":
            dispatch.deliver(index)
        elif word == "lose":
            dispatch.radio.lose(index)
        elif word == "double" and len(dispatch.radio.letters) < 30:
            dispatch.radio.double(index)
        elif word == "order" and len(dispatch.fleet.orders) < 20:
            rng.shuffle(stations)
            dispatch.order(stations[0], stations[1])
        elif word == "ask":
            dispatch.ask(robot)
        elif word == "resend":
            dispatch.resend()
        elif word == "repair":
            for number in range(robots):
                dispatch.repair(number)
        elif word == "fail":
            dispatch.units[robot].fail()

    def check_units(self, dispatch):
        depot = dispatch.fleet.floor.depot
        cells = [unit.position for unit in dispatch.units if unit.position != depot]
        self.assertEqual(len(cells), len(set(cells)))
        for robot, unit in enumerate(dispatch.units):
            places = [dispatch.fleet.robots[robot].place]
            if dispatch.pending is not None and dispatch.pending[1] == robot:
                places.append(dispatch.pending[4])
            self.assertIn(unit.position, places)

    def storm(self, text, robots, seed, deeds):
        rng = random.Random(seed)
        dispatch = new(robots, text, rng.choice([1, 2, 4]))
        wild = rng.choice([0, 2, 6])
        events = []
        for _ in range(deeds):
            before = dispatch.fleet
            self.deed(dispatch, rng, wild)
            self.check_units(dispatch)
            if dispatch.fleet is not before:
                self.assertIsNone(facts_fail(dispatch.fleet))
                events.append(dispatch.fleet.count_done())
        return dispatch, events

    def settle(self, dispatch):
        """Deliver all, ask again, and deliver all."""
        deliver_all(dispatch)
        dispatch.resend()
        for robot in range(len(dispatch.units)):
            dispatch.ask(robot)
        deliver_all(dispatch)
        self.check_units(dispatch)
        self.assertIsNone(dispatch.pending)
        for robot, unit in enumerate(dispatch.units):
            self.assertEqual(dispatch.fleet.robots[robot].broken, not unit.works)
            self.assertEqual(dispatch.fleet.robots[robot].place, unit.position)

    def test_storms(self):
        done = 0
        lives = 0
        for text in STAGES + ["AA\n++\nBB"]:
            for robots in (1, 2, 3, 4):
                for seed in range(3):
                    dispatch, events = self.storm(text, robots, 100 * seed + robots, 900)
                    self.settle(dispatch)
                    done += dispatch.fleet.count_done()
                    lives += sum(unit.lives for unit in dispatch.units)
                    self.assertTrue(events)
        self.assertGreater(done, 60)
        self.assertGreater(lives, 60)

    def test_settling_again_and_again(self):
        for seed in range(6):
            rng = random.Random(seed)
            dispatch = new(3, "AA\n++\nBB")
            for _ in range(6):
                for _ in range(25):
                    self.deed(dispatch, rng, 2)
                    self.check_units(dispatch)
                self.settle(dispatch)

    def test_by_its_acts_alone_a_dispatcher_does_what_events_do(self):
        for text in STAGES:
            dispatch = new(3, text)
            fleet = Fleet(dispatch.fleet.floor, robots=3)
            rng = random.Random(9)
            dispatch.order(0, 1)
            fleet = happen(fleet, ("order", 0, 1))
            for step in range(60):
                robot = rng.randrange(3)
                wanted = act_of(fleet, robot)
                self.assertEqual(act(dispatch, robot), wanted and wanted[0])
                if wanted:
                    fleet = happen(fleet, ("go", robot))
                if step in (5, 20, 30):
                    dispatch.order(1, 0)
                    fleet = happen(fleet, ("order", 1, 0))
                self.assertEqual(rows_of(dispatch.fleet), rows_of(fleet))
                self.assertEqual([unit.position for unit in dispatch.units], [each.place for each in fleet.robots])
