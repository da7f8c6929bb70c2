"""What a floor bears ([41], [42], [44])."""

from clearfloor.ways import most_ways


def strength(floor, robots, closed=()):
    """Return the least of the number of robots and of the numbers of most ways of the stations."""
    least = robots
    for cells in floor.stations:
        ways, _ = most_ways(floor, closed, cells, floor.doors)
        least = min(least, len(ways))
    return least


def keeps_promise(floor, robots, broken):
    """Return whether a floor keeps the promise for a number of broken robots."""
    return strength(floor, robots) > broken


def hanging_cells(floor, robots):
    """Return the cells each of which, closed alone, lowers the strength."""
    least = strength(floor, robots)
    return [cell for cell in range(floor.size) if strength(floor, robots, [cell]) < least]


def analyze(floor, robots):
    """Return how many broken robots a floor bears, (ways, cut) of each station, and the cells that hang."""
    least = strength(floor, robots)
    bears = least - 1 if least > 0 else None
    found = [most_ways(floor, [], cells, floor.doors) for cells in floor.stations]
    return bears, found, hanging_cells(floor, robots)


def most_acts(floor, robots):
    """Return the bound of the acts that are done before one more order is done."""
    return (robots + 1) * (floor.size + 1) * (floor.size + 1) * (2 * floor.size + 7)
