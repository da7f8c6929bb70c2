"""Fleets behind rows of events: what a fleet holds, and pairs of fleets before and behind an event."""

import random

from checks import are_home
from clearfloor.events import happen, why_not
from clearfloor.fleet import Fleet, Order, Robot
from clearfloor.maps import read_floor

STAGES = [
    "#A#\n+.b",
    "+.A\n...\nB.+",
    "A.+.B",
    "+A..\n.#..\n..B+",
    "a..b\n....\n.CC.",
    "+..A..B",
]


def rows_of(fleet):
    """All that a fleet holds, to be compared."""
    robots = [(robot.place, robot.broken, list(robot.way)) for robot in fleet.robots]
    orders = [(order.start, order.goal, order.done, order.robot, order.loaded) for order in fleet.orders]
    return robots, orders, fleet.patience


def made(text, robots, orders=(), patience=4):
    """A fleet by hand: robots are rows of Robot, orders are (start, goal, robot, loaded)."""
    fleet = Fleet(read_floor(text), robots=0, patience=patience)
    fleet.robots = [Robot(*row) for row in robots]
    for start, goal, robot, loaded in orders:
        order = Order(start, goal)
        order.robot, order.loaded = robot, loaded
        fleet.orders.append(order)
    return fleet


def some_events(fleet, rng):
    """Events of one kind, in an order by chance; they may happen or not."""
    robots = list(range(len(fleet.robots)))
    stations = list(range(len(fleet.floor.stations)))
    rng.shuffle(robots)
    rng.shuffle(stations)
    word = rng.choice(["order"] * 4 + ["fail"] + ["tow"] * 2 + ["go"] * 13)
    if word == "order":
        return [(word, stations[0], stations[1])]
    return [(word, robot) for robot in robots]


def walk(text, robots, seed, count=40):
    """Yield (fleet, event, fleet behind it) for the events of a row that happen."""
    rng = random.Random(seed)
    fleet = Fleet(read_floor(text), robots=robots, patience=rng.choice([1, 2, 4]))
    for _ in range(count):
        events = [event for event in some_events(fleet, rng) if why_not(fleet, event) is None]
        if events:
            behind = happen(fleet, events[0])
            yield fleet, events[0], behind
            fleet = behind


def walks(seeds=3, count=40):
    """Yield what walk does, over all stages and some numbers of robots."""
    for text in STAGES:
        for robots in (1, 2, 3, 4):
            for seed in range(seeds):
                yield from walk(text, robots, 10 * seed + robots, count)


def facts_fail(fleet):
    """The first of the facts of [39] that a fleet breaks, or None; assign has to be asked apart."""
    depot = fleet.floor.depot
    cells = [robot.place for robot in fleet.robots if robot.place != depot]
    closed = [robot.place for robot in fleet.robots if robot.place != depot and robot.broken]
    movers = [robot for robot in fleet.robots if robot.place != depot and not robot.broken]
    if len(set(cells)) < len(cells):
        return "two robots on one cell"
    if not are_home(fleet.floor, closed, [robot.place for robot in movers], [robot.way for robot in movers]):
        return "ways that are not ways home"
    if any(robot.way for robot in fleet.robots if robot.broken or robot.place == depot):
        return "a way in the depot or of a broken robot"
    serving = [order.robot for order in fleet.orders if order.robot is not None]
    if len(set(serving)) < len(serving) or any(fleet.robots[robot].broken for robot in serving):
        return "a robot with two orders, or a broken one with an order"
    for order in fleet.orders:
        if (order.done and order.robot is not None) or (order.robot is None and order.loaded):
            return "an order that is done or without a robot"
    return None
