"""The search for one way more while ways are kept ([17] to [20], and the cut of [24]).

A spot is a pair (cell, outward): out of the cell if outward is True, into it otherwise.
"""


def ahead_table(ways):
    """Return for each cell of the ways the cell just before it, None for the first cell of a way."""
    table = {}
    for way in ways:
        before = None
        for cell in way:
            table[cell] = before
            before = cell
    return table


def next_spots(floor, closed, table, spot):
    """Return the spots to which the search can go from a spot, in their order."""
    cell, outward = spot
    if outward:
        spots = [(other, False) for other in floor.near[cell] if other not in closed]
        if cell in table:
            spots.append((cell, False))
        return spots
    if cell not in table:
        return [(cell, True)]
    if table[cell] is None:
        return []
    return [(table[cell], True)]


def explore(floor, closed, ways, starts):
    """Return the spots that the search finds, and for each the index of the one it was reached from."""
    table = ahead_table(ways)
    spots = [(cell, False) for cell in sorted(set(starts)) if cell not in closed]
    parents = [None for _ in spots]
    seen = {spot: True for spot in spots}
    taken = 0
    while taken < len(spots):
        further = next_spots(floor, closed, table, spots[taken])
        for spot in further:
            if spot not in seen:
                seen[spot] = True
                spots.append(spot)
                parents.append(taken)
        taken += 1
    return spots, parents


def path_to(spots, parents, index):
    """Return the spots by which the spot at an index was reached, from the first one to it."""
    path = []
    at = index
    while at is not None:
        path.append(spots[at])
        at = parents[at]
    path.reverse()
    return path


def find_path(floor, closed, ways, starts, goals):
    """Return the path of the first spot out of a goal, or None if there is none."""
    spots, parents = explore(floor, closed, ways, starts)
    for index, (cell, outward) in enumerate(spots):
        if outward and cell in goals:
            return path_to(spots, parents, index)
    return None


def search_cut(floor, closed, ways, starts):
    """Return the cells into which the search comes but not out of them, ascending."""
    spots, _ = explore(floor, closed, ways, starts)
    left = {cell: True for cell, outward in spots if outward}
    return sorted([cell for cell, outward in spots if not outward and cell not in left])
