"""The effort of a fleet ([43])."""

from clearfloor.acts import first_goes, first_robot
from clearfloor.distances import distance


def steps_home(fleet, robot):
    """Return the number of cells of the way of a robot."""
    return len(fleet.robots[robot].way)


def work_of(fleet, robot):
    """Return the work of a robot, 0 if it serves no order."""
    number = fleet.order_of(robot)
    if number is None:
        return 0
    steps = distance(fleet.floor, fleet.closed(), fleet.aim(number), fleet.robots[robot].place)
    still = 1 if fleet.orders[number].loaded else fleet.floor.size + 2
    return still if steps is None else steps + still


def share_of(fleet, robot):
    """Return what a robot adds to the effort as one that serves an order or runs without one."""
    if fleet.robots[robot].broken:
        return 0
    above = fleet.floor.size + 1
    if fleet.order_of(robot) is not None:
        return above * work_of(fleet, robot)
    return above * above * (2 * fleet.floor.size + 5) + steps_home(fleet, robot)


def delay(fleet):
    """Return what a first robot without an act adds to the effort, 0 if there is none."""
    if first_goes(fleet):
        return 0
    first = first_robot(fleet)
    steps = sum([steps_home(fleet, robot) for robot in range(len(fleet.robots)) if robot != first])
    return 1 + (fleet.floor.size + 2) * steps


def effort(fleet):
    """Return the effort of a fleet."""
    above = fleet.floor.size + 1
    total = sum([share_of(fleet, robot) for robot in range(len(fleet.robots))])
    first = first_robot(fleet)
    if first is not None:
        total += above * above * work_of(fleet, first)
    return total + delay(fleet)
