"""The first robot, steps, and the acts of robots ([32] to [36])."""

from clearfloor.distances import distance, nearer
from clearfloor.ways import add_way


def first_robot(fleet):
    """Return the robot of the first open order that has one with a distance to its aim, or None."""
    closed = fleet.closed()
    for number, order in enumerate(fleet.orders):
        if not order.done and order.robot is not None:
            place = fleet.robots[order.robot].place
            if distance(fleet.floor, closed, fleet.aim(number), place) is not None:
                return order.robot
    return None


def nearer_places(fleet, cells, robot):
    """Return the positions next to a robot's own that are nearer to some cells."""
    return nearer(fleet.floor, fleet.closed(), cells, fleet.robots[robot].place)


def moved(fleet, robot, position, way):
    """Return a new fleet in which a robot stands on a position and has a way; all else is as it was."""
    behind = fleet.twin()
    mover = behind.robots[robot]
    mover.place = position
    mover.way = list(way)
    return behind


def step_onto(fleet, robot, cell):
    """Return the fleet behind a step onto a cell next to a robot that runs, or None if it cannot step there."""
    if cell in fleet.taken():
        return None
    others = [number for number in fleet.running() if number != robot]
    ways = add_way(fleet.floor, fleet.closed(), fleet.kept_ways(others), cell)
    if ways is None:
        return None
    behind = moved(fleet, robot, cell, ways[-1])
    for number, way in zip(others, ways):
        other = behind.robots[number]
        other.way = way
    return behind


def step(fleet, robot, position):
    """Return the fleet behind a step of a robot to a position, or None if it cannot step there."""
    mover = fleet.robots[robot]
    if mover.broken or position not in fleet.floor.around(mover.place):
        return None
    if position == fleet.floor.depot:
        return moved(fleet, robot, position, [])
    return step_onto(fleet, robot, position)


def can_step(fleet, robot, position):
    """Return whether a robot can step to a position."""
    return step(fleet, robot, position) is not None


def step_home(fleet, robot):
    """Return the fleet behind a step home of a robot on the floor that runs."""
    ahead = fleet.robots[robot].way[1:]
    if ahead:
        return moved(fleet, robot, ahead[0], ahead)
    return moved(fleet, robot, fleet.floor.depot, [])


def handle(fleet, number):
    """Return the word for loading or unloading an open order, and the fleet behind it."""
    behind = fleet.twin()
    order = behind.orders[number]
    if order.loaded:
        order.finish()
        return "unload", behind
    order.load()
    return "load", behind


def plain_act(fleet, number, robot):
    """Return the act of a robot by the rules 1 and 2, for the order that it serves, or None."""
    cells = fleet.aim(number)
    if fleet.robots[robot].place in cells:
        return handle(fleet, number)
    if robot != first_robot(fleet):
        return None
    for position in nearer_places(fleet, cells, robot):
        behind = step(fleet, robot, position)
        if behind is not None:
            return "on", behind
    return None


def first_goes(fleet):
    """Return whether there is no first robot, or it has an act."""
    robot = first_robot(fleet)
    if robot is None:
        return True
    return plain_act(fleet, fleet.order_of(robot), robot) is not None


def careful_act(fleet, number, robot):
    """Return the act of a robot by rule 3, for the order that it serves, or None."""
    for position in nearer_places(fleet, fleet.aim(number), robot):
        behind = step(fleet, robot, position)
        if behind is not None and first_goes(behind):
            return "on", behind
    return None


def idle_act(fleet, robot):
    """Return the act of a robot without an order by rule 5, or None."""
    if fleet.robots[robot].place == fleet.floor.depot:
        return None
    behind = step_home(fleet, robot)
    # Where the first robot has no act, going home may make room for it and can spoil nothing.
    if not first_goes(fleet) or first_goes(behind):
        return "home", behind
    return None


def act_of(fleet, robot):
    """Return the act of a robot as its name and the fleet behind it, or None."""
    if fleet.robots[robot].broken:
        return None
    number = fleet.order_of(robot)
    if number is None:
        return idle_act(fleet, robot)
    act = plain_act(fleet, number, robot)
    if act is not None or robot == first_robot(fleet):
        return act
    if first_goes(fleet):
        return careful_act(fleet, number, robot)
    if fleet.robots[robot].place == fleet.floor.depot:
        return None
    return "home", step_home(fleet, robot)
