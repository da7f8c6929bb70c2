"""Robots that are let go in turn, and robots that go home ([73], [74])."""

from clearfloor.acts import act_of, step_home
from clearfloor.events import happen


def next_ready(fleet, turn):
    """Return the first robot that has an act, counted from a number on and then from 0, or None."""
    many = len(fleet.robots)
    for at in range(many):
        robot = (turn + at) % many
        if act_of(fleet, robot) is not None:
            return robot
    return None


def serve(fleet, *, turn=0, count):
    """Return the robots that were let go until one more order is done, and the fleet behind that."""
    gone = []
    behind = fleet.twin()
    robot = next_ready(behind, turn)
    while robot is not None and len(gone) < count and behind.count_done() == fleet.count_done():
        behind = happen(behind, ("go", robot))
        gone.append(robot)
        robot = next_ready(behind, robot + 1)
    return gone, behind


def one_home(fleet, number):
    """Return the fleet behind one step home of a robot on the floor that runs."""
    return step_home(fleet, number)


def all_home(fleet, numbers):
    """Return the fleet behind steps home of the named robots, one after another."""
    behind = fleet.twin()
    for number in numbers:
        if number in behind.running():
            behind = one_home(behind, number)
    return behind
