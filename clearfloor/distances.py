"""Distances over the cells that are not closed and over the depot ([14], [15])."""


def distances(floor, closed, aims):
    """Return the distance of each position to the aims, the depot last; None where there is none."""
    barred = {cell: True for cell in closed}
    found = [None] * (floor.size + 1)
    queue = []
    for aim in aims:
        if aim not in barred and found[aim] is None:
            found[aim] = 0
            queue.append(aim)
    taken = 0
    # Positions are next to each other both ways, so the steps may be counted from the aims on.
    while taken < len(queue):
        position = queue[taken]
        taken += 1
        for other in floor.around(position):
            if other not in barred and found[other] is None:
                found[other] = found[position] + 1
                queue.append(other)
    return found


def distance(floor, closed, aims, position):
    """Return the distance of one position to the aims, or None."""
    return distances(floor, closed, aims)[position]


def nearer(floor, closed, aims, position):
    """Return the positions next to a position that are nearer to the aims."""
    found = distances(floor, closed, aims)
    # None and 0 alike: from there nothing is nearer.
    if not found[position]:
        return []
    return [other for other in floor.around(position) if found[other] == found[position] - 1]
