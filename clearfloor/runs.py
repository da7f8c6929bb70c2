"""Runs: events that follow from a seed ([50], [51])."""

from clearfloor.errors import RefusedError
from clearfloor.events import happen

WORDS = 4294967296


def mix(first, second):
    """Return the mix of two integers from 0 to 4294967295."""
    turned = (first ^ ((second + 2654435769) % WORDS)) * 2246822507 % WORDS
    return (turned ^ (turned // 32768)) * 3266489909 % WORDS


def chosen(fleet, word, most):
    """Return a list with the event that a word chooses, or the empty list."""
    kind = word % 16
    rest = word // 16
    stations = len(fleet.floor.stations)
    robots = len(fleet.robots)
    if kind < 2 and stations > 0:
        return [("order", rest % stations, rest // stations % stations)]
    if kind == 2 and fleet.count_broken() < most:
        return [("fail", rest % (robots + 1))]
    if kind == 3:
        return [("tow", rest % (robots + 1))]
    return []


def next_orders(fleet, rest):
    """Return a list with the order of row 3 of [51], empty without a station."""
    stations = len(fleet.floor.stations)
    if stations == 0:
        return []
    return [("order", rest % stations, (rest + 1) % stations)]


def tries(fleet, seed, index, *, most):
    """Return the events that are tried for an event of a run, in order."""
    word = mix(seed, index)
    rest = word // 16
    robots = len(fleet.robots)
    lets = [("go", (rest + at) % robots) for at in range(robots)]
    tows = [("tow", robot) for robot in range(robots)]
    return chosen(fleet, word, most) + lets + next_orders(fleet, rest) + tows


def first_that_happens(fleet, events):
    """Return the first event that can happen and the fleet behind it, or None."""
    for event in events:
        try:
            return event, happen(fleet, event)
        except RefusedError:
            continue
    return None


def drive(fleet, *, seed, most, count):
    """Return the events of a run, and the fleet behind it."""
    events = []
    behind = fleet.twin()
    while len(events) < count:
        found = first_that_happens(behind, tries(behind, seed, len(events), most=most))
        if found is None:
            break
        event, behind = found
        events.append(event)
    return events, behind
