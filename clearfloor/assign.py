"""How orders are given robots ([30], [31])."""

from clearfloor.distances import distances


def nearest_free(fleet, cells):
    """Return the free robot with the least distance to some cells, or None."""
    table = distances(fleet.floor, fleet.closed(), cells)
    best = None
    least = None
    for number, robot in enumerate(fleet.robots):
        steps = table[robot.place]
        if steps is not None and fleet.is_free(number):
            # Only a lesser distance counts, so the least number stays among equal ones.
            if least is None or steps < least:
                best = number
                least = steps
    return best


def next_order(fleet):
    """Return the next order that gets a robot, and this robot, as a tuple, or None."""
    first = fleet.first_open()
    beyond = min(first + fleet.patience, len(fleet.orders))
    for number in range(first, beyond):
        order = fleet.orders[number]
        if not order.done and order.robot is None:
            robot = nearest_free(fleet, fleet.floor.stations[order.start])
            if robot is not None:
                return number, robot
    return None


def assign(fleet):
    """Give robots to orders in this very fleet, and return the tuples (order, robot)."""
    given = []
    found = next_order(fleet)
    while found is not None:
        number, robot = found
        fleet.orders[number].give(robot)
        given.append(found)
        found = next_order(fleet)
    return given
