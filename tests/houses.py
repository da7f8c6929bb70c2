"""Warehouses with journals, and all that a warehouse holds, to be compared."""

import copy

from clearfloor.device import Device
from clearfloor.house import Warehouse
from clearfloor.journal import Journal, format_device
from walks import rows_of

# The cells of CROSS: 0 is A, 1 a door, 2 the middle, 3 is B and a door; the depot is 4.
CROSS = "#A#\n+.b"
FIRST = "robots 2 patience 4\n#A#\n+.b"
ENOUGH = 60001


def kept(text=CROSS, *, robots=2, patience=4, size=ENOUGH):
    """A warehouse with a journal."""
    return Warehouse(text, robots=robots, patience=patience, journal=format_device(Device(size)))


def records(house):
    """The records of the journal of a warehouse, read anew from its device."""
    return Journal(house.journal.device).texts()


def state(house):
    return rows_of(house.fleet), list(house.events)


def without_journal(house):
    """A warehouse that is like this one, but has no journal."""
    journal, house.journal = house.journal, None
    twin = copy.deepcopy(house)
    house.journal = journal
    return twin


def states(house):
    """The state of a warehouse and its earlier ones, from the newest on."""
    twin = without_journal(house)
    twin.is_shut = False
    found = [state(twin)]
    while twin.undo():
        found.append(state(twin))
    return found


def answers(house):
    """All that a warehouse answers."""
    robots = range(len(house.fleet.robots))
    stations = "ABCDEFGH"[:len(house.floor.stations)]
    rows = [house.robot_rows(), house.order_rows(), house.ready(), house.first(), house.log()]
    rows += [house.bound(), house.effort()]
    rows += [(house.act(robot), house.waits(robot)) for robot in robots]
    return rows + [house.distance(robot, letter) for robot in robots for letter in stations]


def shut(house):
    """Shut a warehouse by a cut, and give its device power again."""
    device = house.journal.device
    device.recharge(0)
    try:
        house.pack()
    except Exception as error:
        assert error.__class__.__name__ == "PowerCut"
    device.recharge()
    assert house.is_shut
    return house
