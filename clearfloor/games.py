"""Sieges: games of robots against traps ([68] to [72])."""

from clearfloor.errors import MoveError
from clearfloor.ways import most_ways


def is_move(floor, closed, traps, positions, move):
    """Return whether a robot can move so, where a move is a pair of a robot and a position."""
    robot, position = move
    if not 0 <= robot < len(positions) or positions[robot] in traps:
        return False
    if position not in floor.around(positions[robot]):
        return False
    return position == floor.depot or (position not in closed and position not in positions)


def moves(floor, closed, traps, positions):
    """Return all moves, by robots and then in the order of around."""
    pairs = [(robot, other) for robot, own in enumerate(positions) for other in floor.around(own)]
    return [pair for pair in pairs if is_move(floor, closed, traps, positions, pair)]


def play(floor, closed, traps, positions, row):
    """Return the positions behind the moves of a row."""
    behind = list(positions)
    for index, move in enumerate(row):
        if not is_move(floor, closed, traps, behind, move):
            raise MoveError(index)
        robot, position = move
        behind[robot] = position
    return behind


def escape(floor, ways, traps):
    """Return the moves by which the robot of the first way without a trap comes home, or None."""
    for robot, way in enumerate(ways):
        if not any(cell in traps for cell in way):
            return [(robot, position) for position in way[1:] + [floor.depot]]
    return None


def blockade(floor, closed, cells):
    """Return the nearest cut around cells if it has fewer cells than these, otherwise None."""
    _, cut = most_ways(floor, closed, cells, floor.doors)
    return cut if len(cut) < len(set(cells)) else None


def weakness(floor, robots, broken):
    """Return the first station that few broken robots can cut off, with the cut; or None."""
    if robots <= broken:
        return None, []
    for station, cells in enumerate(floor.stations):
        ways, cut = most_ways(floor, [], cells, floor.doors)
        if len(ways) <= broken:
            return station, cut
    return None


def trail(parents, place):
    """Return the positions from behind the first one up to a place."""
    row = []
    at = place
    while parents[at] is not None:
        row.append(at)
        at = parents[at]
    row.reverse()
    return row


def approach(floor, cells, traps):
    """Return the positions behind the depot up to the first of the cells that is found, or None."""
    parents = {floor.depot: None}
    queue = [floor.depot]
    taken = 0
    while taken < len(queue):
        place = queue[taken]
        if place in cells:
            return trail(parents, place)
        for other in floor.around(place):
            if other not in traps and other not in parents:
                parents[other] = place
                queue.append(other)
        taken += 1
    return None
