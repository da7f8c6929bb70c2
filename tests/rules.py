"""[32] to [36], [43], [45] and [46] once more, rule by rule. The tests compare the program with this."""

from clearfloor.distances import distances
from clearfloor.ways import add_way, most_ways


def closed_of(fleet):
    return [robot.place for robot in fleet.robots if robot.broken and robot.place != fleet.floor.depot]


def serves(fleet, robot):
    """The order that a robot serves, or None."""
    found = [order for order in fleet.orders if not order.done and order.robot == robot]
    return found[0] if found else None


def aim_of(fleet, order):
    return fleet.floor.stations[order.goal if order.loaded else order.start]


def table_of(fleet, order):
    """The distance of each position to the aim of an order."""
    return distances(fleet.floor, closed_of(fleet), aim_of(fleet, order))


def first(fleet):
    for order in fleet.orders:
        if not order.done and order.robot is not None:
            if table_of(fleet, order)[fleet.robots[order.robot].place] is not None:
                return order.robot
    return None


def nearer_of(fleet, robot):
    """The positions next to that of a serving robot that are nearer to its aim."""
    place = fleet.robots[robot].place
    table = table_of(fleet, serves(fleet, robot))
    if table[place] is None or table[place] < 1:
        return []
    return [other for other in fleet.floor.around(place) if table[other] == table[place] - 1]


def others_of(fleet, robot):
    depot = fleet.floor.depot
    rows = enumerate(fleet.robots)
    return [number for number, other in rows if number != robot and other.place != depot and not other.broken]


def stepped(fleet, robot, position):
    """The fleet behind a step, or None."""
    behind = fleet.twin()
    mover = behind.robots[robot]
    if mover.broken or position not in fleet.floor.around(mover.place):
        return None
    ways = [[]]
    if position != fleet.floor.depot:
        if any(other.place == position for other in fleet.robots):
            return None
        others = others_of(fleet, robot)
        kept = [fleet.robots[number].way for number in others]
        ways = add_way(fleet.floor, closed_of(fleet), kept, position)
        if ways is None:
            return None
        for number, way in zip(others, ways):
            behind.robots[number].way = way
    mover.place, mover.way = position, ways[-1]
    return behind


def gone_home(fleet, robot):
    """The fleet behind a step home, or None in the depot."""
    behind = fleet.twin()
    mover = behind.robots[robot]
    if mover.place == fleet.floor.depot:
        return None
    mover.way = mover.way[1:]
    mover.place = mover.way[0] if mover.way else fleet.floor.depot
    return behind


def first_waits(fleet):
    """Whether there is a first robot and it has no act."""
    robot = first(fleet)
    return robot is not None and act(fleet, robot) is None


def handled(fleet, robot):
    behind = fleet.twin()
    order = serves(behind, robot)
    if not order.loaded:
        order.loaded = True
        return "load", behind
    order.loaded, order.robot, order.done = False, None, True
    return "unload", behind


def on(fleet, robot, careful):
    for position in nearer_of(fleet, robot):
        behind = stepped(fleet, robot, position)
        if behind is not None and not (careful and first_waits(behind)):
            return "on", behind
    return None


def act(fleet, robot):
    """The act of a robot: None, or a tuple of its name and the fleet behind it."""
    if fleet.robots[robot].broken:
        return None
    order = serves(fleet, robot)
    if order is not None and fleet.robots[robot].place in aim_of(fleet, order):
        return handled(fleet, robot)
    if order is not None and first(fleet) == robot:
        return on(fleet, robot, False)
    if order is not None and not first_waits(fleet):
        return on(fleet, robot, True)
    behind = gone_home(fleet, robot)
    if behind is None:
        return None
    if order is not None or first_waits(fleet) or not first_waits(behind):
        return "home", behind
    return None


def why(fleet, robot):
    """The why of a robot that waits."""
    order = serves(fleet, robot)
    place = fleet.robots[robot].place
    reasons = [("broken", fleet.robots[robot].broken)]
    if order is None:
        reasons += [("idle", place == fleet.floor.depot), ("home", True)]
    else:
        reasons.append(("far", table_of(fleet, order)[place] is None))
        reasons.append(("behind", first(fleet) != robot and first_waits(fleet)))
    return ([word for word, holds in reasons if holds] + ["hindered"])[0]


def hindered(fleet, robot, position):
    """The hindrance of a position next to that of a robot that runs, or None."""
    on_it = [number for number, other in enumerate(fleet.robots) if other.place == position]
    if on_it and position != fleet.floor.depot:
        return "taken", on_it[0], None
    behind = stepped(fleet, robot, position)
    if behind is None:
        cells = [fleet.robots[number].place for number in others_of(fleet, robot)] + [position]
        return "trapped", None, most_ways(fleet.floor, closed_of(fleet), cells, fleet.floor.doors)[1]
    return ("first", None, None) if first_waits(behind) else None


def effort(fleet):
    n = fleet.floor.size
    total = 0
    for number, robot in enumerate(fleet.robots):
        order = serves(fleet, number)
        if order is not None:
            work = (table_of(fleet, order)[robot.place] or 0) + (1 if order.loaded else n + 2)
            total += (n + 1) * work
            if first(fleet) == number:
                total += (n + 1) * (n + 1) * work
        elif not robot.broken:
            total += (n + 1) * (n + 1) * (2 * n + 5) + len(robot.way)
    if first_waits(fleet):
        others = fleet.robots[:first(fleet)] + fleet.robots[first(fleet) + 1:]
        total += 1 + (n + 2) * sum(len(robot.way) for robot in others)
    return total
