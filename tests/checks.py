"""What [16] says of ways, cuts and reached cells, put plainly. The tests compare the program with it."""

import itertools

from clearfloor.floors import floor_of
from clearfloor.maps import read_floor

THREE = [[1], [0, 2], [1]]

TEXTS = [
    "+",
    "+.",
    "+..+",
    "+.\n..",
    "+..\n..+",
    "+..\n.#.\n..+",
    "#A#\n+.b",
    "+.#\n...\n#.+",
    "...\n+#+\n...",
    "+++\n...\n...",
    "+#..\n....\n..#+",
    "....\n.##.\n+..+",
    "a..+\n.##.\n..B+",
]


def floors():
    made = [read_floor(text) for text in TEXTS]
    made.append(floor_of(THREE, [0, 2], []))
    made.append(floor_of(THREE, [2], [[0, 1]]))
    made.append(floor_of([[1, 2, 3], [0, 2, 3], [0, 1, 3], [0, 1, 2]], [1, 3], []))
    made.append(floor_of([[1, 4], [0, 2], [1, 3], [2, 4], [0, 3]], [2], []))
    made.append(floor_of([[1], [0, 2, 5], [1, 3], [2, 6], [6], [1], [3, 4]], [5, 6], []))
    made.append(floor_of([[], [2], [1]], [0], []))
    return made


def small_floors():
    return [floor for floor in floors() if floor.size <= 6]


def choices(cells, most):
    return [list(row) for many in range(most + 1) for row in itertools.combinations(cells, many)]


def is_way(floor, closed, sources, goals, way):
    if not way or way[0] not in sources or way[-1] not in goals or len(set(way)) < len(way):
        return False
    if any(cell in closed for cell in way):
        return False
    return all(after in floor.near[cell] for cell, after in zip(way, way[1:]))


def are_apart(ways):
    cells = [cell for way in ways for cell in way]
    return len(cells) == len(set(cells))


def are_home(floor, closed, cells, ways):
    if [way[0] for way in ways if way] != list(cells):
        return False
    return are_apart(ways) and all(is_way(floor, closed, cells, floor.doors, way) for way in ways)


def reached(floor, sources, barred):
    cells = {cell for cell in sources if cell not in barred}
    while True:
        more = {other for cell in cells for other in floor.near[cell] if other not in barred}
        if more <= cells:
            return cells
        cells |= more


def cuts_off(floor, closed, sources, goals, cut):
    return not reached(floor, sources, list(closed) + list(cut)) & set(goals)
