"""Tests of ways, cuts and fleets by the words of the document ([16], [66], [67])."""


def is_linked(floor, cells):
    """Return whether each cell but the first one is a neighbor of the cell before it."""
    return all(cell in floor.near[before] for before, cell in zip(cells, cells[1:]))


def share_cells(cells):
    """Return whether some cell is twice in a list."""
    return len(set(cells)) < len(cells)


def is_way(floor, closed, sources, goals, way):
    """Return whether a list of cells is a way from sources to goals."""
    if not way or way[0] not in sources or way[-1] not in goals:
        return False
    if any(cell in closed for cell in way):
        return False
    return is_linked(floor, way) and not share_cells(way)


def are_apart(ways):
    """Return whether no two ways have a cell in common."""
    return not share_cells([cell for way in ways for cell in way])


def are_home(floor, closed, cells, ways):
    """Return whether ways are ways home for cells, in their order."""
    if len(ways) != len(cells) or not are_apart(ways):
        return False
    return all(is_way(floor, closed, [cell], floor.doors, way) for cell, way in zip(cells, ways))


def reached_cells(floor, closed, sources, barred):
    """Return the cells that are reached from sources, ascending."""
    shut = {cell: True for cell in list(closed) + list(barred)}
    found = sorted({cell for cell in sources if cell not in shut})
    seen = {cell: True for cell in found}
    taken = 0
    while taken < len(found):
        cell = found[taken]
        taken += 1
        for other in floor.near[cell]:
            if other not in shut and other not in seen:
                seen[other] = True
                found.append(other)
    return sorted(found)


def cuts_off(floor, closed, sources, goals, cut):
    """Return whether a cut cuts off sources from goals."""
    reached = reached_cells(floor, closed, sources, cut)
    return not any(goal in reached for goal in goals)


def is_safe(fleet):
    """Return whether no two robots stand on one cell, and the kept ways are ways home."""
    numbers = fleet.running()
    cells = [fleet.robots[number].place for number in numbers]
    if share_cells(fleet.taken()):
        return False
    return are_home(fleet.floor, fleet.closed(), cells, fleet.kept_ways(numbers))


def is_served(fleet):
    """Return whether the orders have only robots that run, each its own, and only such orders are loaded."""
    for order in fleet.orders:
        if order.robot is None and order.loaded:
            return False
        if order.robot is not None and order.done:
            return False
    robots = [order.robot for order in fleet.orders if order.robot is not None]
    if any(fleet.robots[robot].broken for robot in robots):
        return False
    return len(set(robots)) == len(robots)
