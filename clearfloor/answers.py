"""What a warehouse tells of its fleet, with places and letters in place of cells and stations."""

from clearfloor.acts import act_of
from clearfloor.distances import distance
from clearfloor.floors import LETTERS
from clearfloor.waiting import waits


def told_places(floor, cells):
    """Return the places of some cells."""
    return [floor.place(cell) for cell in cells]


def robot_row(fleet, number):
    """Return (place or None, broken, order or None, loaded, places of the way) of a robot."""
    robot = fleet.robots[number]
    order = fleet.order_of(number)
    loaded = order is not None and fleet.orders[order].loaded
    return fleet.floor.place(robot.place), robot.broken, order, loaded, told_places(fleet.floor, robot.way)


def order_row(order):
    """Return (letter of the start, letter of the goal, done, robot or None, loaded) of an order."""
    return LETTERS[order.start], LETTERS[order.goal], order.done, order.robot, order.loaded


def told_act(fleet, robot):
    """Return the name of the act of a robot and its place behind it, or None."""
    act = act_of(fleet, robot) if 0 <= robot < len(fleet.robots) else None
    if act is None:
        return None
    name, behind = act
    return name, fleet.floor.place(behind.robots[robot].place)


def told_hindrance(floor, found):
    """Return a hindrance with places in place of cells."""
    position, why, robot, cut = found
    return floor.place(position), why, robot, None if cut is None else told_places(floor, cut)


def told_waiting(fleet, robot):
    """Return why a robot waits and its hindrances, or None if it has an act."""
    waiting = waits(fleet, robot)
    if waiting is None:
        return None
    why, found = waiting
    return why, [told_hindrance(fleet.floor, one) for one in found]


def told_distance(fleet, robot, letter):
    """Return the distance of a robot to the station with a letter, or None."""
    station = fleet.floor.station(letter)
    if station is None:
        return None
    return distance(fleet.floor, fleet.closed(), fleet.floor.stations[station], fleet.robots[robot].place)
