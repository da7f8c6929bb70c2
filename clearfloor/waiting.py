"""Why a robot waits, and what hinders it ([45] to [47])."""

from clearfloor.acts import act_of, first_goes, first_robot, nearer_places, step
from clearfloor.distances import distance
from clearfloor.ways import most_ways


def robot_on(fleet, position):
    """Return the first robot that stands on a position, or None."""
    for number, robot in enumerate(fleet.robots):
        if robot.place == position:
            return number
    return None


def trap_cut(fleet, robot, cell):
    """Return the nearest cut around the other robots on the floor that run and a cell."""
    cells = [fleet.robots[number].place for number in fleet.running() if number != robot]
    _, cut = most_ways(fleet.floor, fleet.closed(), cells + [cell], fleet.floor.doors)
    return cut


def hindrance(fleet, robot, position):
    """Return the hindrance of a position next to a robot that runs as (why, robot, cut), or None."""
    other = robot_on(fleet, position)
    # Any number of robots may stand in the depot.
    if other is not None and position != fleet.floor.depot:
        return "taken", other, None
    behind = step(fleet, robot, position)
    if behind is None:
        return "trapped", None, trap_cut(fleet, robot, position)
    if not first_goes(behind):
        return "first", None, None
    return None


def hindrances(fleet, number, robot):
    """Return (position, why, robot, cut) for the nearer positions with a hindrance, for an order."""
    found = []
    for position in nearer_places(fleet, fleet.aim(number), robot):
        reason = hindrance(fleet, robot, position)
        if reason is not None:
            why, other, cut = reason
            found.append((position, why, other, cut))
    return found


def why_waits(fleet, robot):
    """Return the why of a robot that has no act."""
    waiting = fleet.robots[robot]
    if waiting.broken:
        return "broken"
    number = fleet.order_of(robot)
    if number is None:
        return "idle" if waiting.place == fleet.floor.depot else "home"
    if distance(fleet.floor, fleet.closed(), fleet.aim(number), waiting.place) is None:
        return "far"
    if robot != first_robot(fleet) and not first_goes(fleet):
        return "behind"
    return "hindered"


def waits(fleet, robot):
    """Return None if a robot has an act, otherwise why it waits and the list of its hindrances."""
    if act_of(fleet, robot) is not None:
        return None
    why = why_waits(fleet, robot)
    if why == "hindered":
        return why, hindrances(fleet, fleet.order_of(robot), robot)
    return why, []
