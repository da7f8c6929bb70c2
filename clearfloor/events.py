"""Events, and the reasons why they cannot happen ([37] to [39]).

An event is ("order", start, goal), ("go", robot), ("fail", robot) or ("tow", robot).
"""

from clearfloor.acts import act_of
from clearfloor.assign import assign
from clearfloor.errors import RefusedError
from clearfloor.fleet import Order
from clearfloor.waiting import why_waits

GO_REASONS = {
    "broken": "robot is broken",
    "idle": "robot has nothing to do",
    "far": "robot cannot come there",
}


def why_no_order(fleet, start, goal):
    """Return the reason why an order cannot come, or None."""
    many = len(fleet.floor.stations)
    if not (0 <= start < many and 0 <= goal < many):
        return "no such station"
    if start == goal:
        return "same station"
    return None


def ordered(fleet, start, goal):
    """Return the fleet behind an order that comes, before orders are given robots."""
    behind = fleet.twin()
    behind.orders.append(Order(start, goal))
    return behind


def broken_down(fleet, robot):
    """Return the fleet behind a failure of a robot that runs, before orders are given robots."""
    behind = fleet.twin()
    number = behind.order_of(robot)
    if number is not None:
        behind.orders[number].release()
    broken = behind.robots[robot]
    broken.broken = True
    broken.way = []
    return behind


def towed(fleet, robot):
    """Return the fleet behind the towing of a broken robot, before orders are given robots."""
    behind = fleet.twin()
    running = behind.robots[robot]
    running.broken = False
    running.place = behind.floor.depot
    return behind


def order_outcome(fleet, start, goal):
    """Return what outcome does, of an order."""
    reason = why_no_order(fleet, start, goal)
    if reason is not None:
        return reason, None
    return None, ordered(fleet, start, goal)


def go_outcome(fleet, robot):
    """Return what outcome does, of a robot that is let go."""
    act = act_of(fleet, robot)
    if act is None:
        return GO_REASONS.get(why_waits(fleet, robot), "robot has to wait"), None
    _, behind = act
    return None, behind


def robot_outcome(fleet, word, robot):
    """Return what outcome does, of an event of a robot."""
    if not 0 <= robot < len(fleet.robots):
        return "no such robot", None
    broken = fleet.robots[robot].broken
    if word == "go":
        return go_outcome(fleet, robot)
    if word == "fail":
        return ("robot is broken", None) if broken else (None, broken_down(fleet, robot))
    return (None, towed(fleet, robot)) if broken else ("robot is not broken", None)


def outcome(fleet, event):
    """Return the reason why an event cannot happen and None; or None and the fleet behind it.

    In this fleet orders are not given robots yet.
    """
    if event[0] == "order":
        return order_outcome(fleet, event[1], event[2])
    return robot_outcome(fleet, event[0], event[1])


def why_not(fleet, event):
    """Return the reason why an event cannot happen, or None."""
    reason, _ = outcome(fleet, event)
    return reason


def happen(fleet, event):
    """Return the fleet behind an event."""
    reason, behind = outcome(fleet, event)
    if reason is not None:
        raise RefusedError(reason)
    assign(behind)
    return behind


def run(fleet, events):
    """Return the fleet behind the events of a list."""
    behind = fleet.twin()
    for at, event in enumerate(events):
        try:
            behind = happen(behind, event)
        except RefusedError as refused:
            raise RefusedError(refused.reason, at + 1) from None
    return behind
