"""Ways that are apart, and the nearest cut ([16], [23] to [25])."""

from clearfloor.links import new_ways
from clearfloor.search import find_path, search_cut


def add_way(floor, closed, ways, cell):
    """Return ways home for the first cells of the kept ways and for one cell more, or None."""
    path = find_path(floor, closed, ways, [cell], floor.doors)
    if path is None:
        return None
    return new_ways(ways, path)


def most_ways(floor, closed, sources, goals):
    """Return the most ways from sources to goals, and the nearest cut, as a tuple."""
    ways = []
    path = find_path(floor, closed, ways, sources, goals)
    while path is not None:
        ways = new_ways(ways, path)
        path = find_path(floor, closed, ways, sources, goals)
    return ways, search_cut(floor, closed, ways, sources)


def ways_home(floor, closed, cells):
    """Return ways home for the cells, in their order, or None."""
    ways = []
    for cell in cells:
        ways = add_way(floor, closed, ways, cell)
        if ways is None:
            return None
    return ways
