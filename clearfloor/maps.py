"""Maps: the texts that floors are read from ([4] to [11])."""

from clearfloor.errors import MapError
from clearfloor.floors import Floor

WALL = "#"
BLANKS = " \t"
TILES = "#.+ABCDEFGHIJKLMNOPQRSTUVWXYZabcdefghijklmnopqrstuvwxyz"
STATIONS = "ABCDEFGH"
TOO_LATE_STATIONS = "IJKLMNOPQRSTUVWXYZ"
MOST_ROWS = 16
MOST_COLUMNS = 16
MOST_CELLS = 120


def tiles_of(line):
    """Return a line without its spaces and tabs."""
    return line.replace(" ", "").replace("\t", "")


def is_door(tile):
    """Return whether the cell of a tile is at a door."""
    return tile == "+" or tile.islower()


def count_cells(rows):
    """Return how many tiles of some rows are not walls."""
    return sum(len(row) - row.count(WALL) for row in rows)


def sign_problem(rows, row, sign):
    """Return the problem of the sign behind complete rows and the tiles of this row, or None ([8])."""
    if sign not in TILES:
        return "unexpected character"
    if len(rows) >= MOST_ROWS:
        return f"more than {MOST_ROWS} rows"
    if rows and len(row) >= len(rows[0]):
        return f"row is longer than {len(rows[0])}"
    if len(row) >= MOST_COLUMNS:
        return f"more than {MOST_COLUMNS} columns"
    if sign.upper() in TOO_LATE_STATIONS:
        return f"more than {len(STATIONS)} stations"
    if sign != WALL and count_cells(rows + [row]) >= MOST_CELLS:
        return f"more than {MOST_CELLS} cells"
    return None


def line_fault(rows, line):
    """Return the fault of a line behind complete rows as (column, problem), or None."""
    row = ""
    for at, sign in enumerate(line):
        if sign not in BLANKS:
            problem = sign_problem(rows, row, sign)
            if problem is not None:
                return at + 1, problem
            row = row + sign
    if row and rows and len(row) < len(rows[0]):
        return len(line) + 1, f"row has {len(row)} tiles, expected {len(rows[0])}"
    return None


def missing_station(tiles):
    """Return the first letter without a cell that comes before one with cells, or None."""
    used = tiles.upper()
    missing = [letter for letter in STATIONS if letter not in used]
    if missing and any(letter in used for letter in STATIONS if letter > missing[0]):
        return missing[0]
    return None


def end_problem(rows):
    """Return the problem that is found behind all rows, or None ([9])."""
    if not rows:
        return "map is empty"
    tiles = "".join(rows)
    if not any(is_door(tile) for tile in tiles):
        return "door is missing"
    letter = missing_station(tiles)
    if letter is not None:
        return f"station {letter} is missing"
    return None


def check_map(text):
    """Return the fault of a text as (line, column, problem), or None if it is a map."""
    lines = text.split("\n")
    rows = []
    for at, line in enumerate(lines):
        fault = line_fault(rows, line)
        if fault is not None:
            column, problem = fault
            return at + 1, column, problem
        row = tiles_of(line)
        if row:
            rows.append(row)
    problem = end_problem(rows)
    if problem is not None:
        return len(lines), len(lines[-1]) + 1, problem
    return None


def read_rows(text):
    """Return the rows of a map."""
    fault = check_map(text)
    if fault is not None:
        line, column, problem = fault
        raise MapError(line, column, problem)
    rows = [tiles_of(line) for line in text.split("\n")]
    return [row for row in rows if row]


def format_map(text):
    """Return the written form of a map."""
    return "\n".join(read_rows(text))


def places_of(rows):
    """Return the places of the cells of some rows, in reading order."""
    return [(at, column) for at, row in enumerate(rows) for column, tile in enumerate(row) if tile != WALL]


def places_near(place):
    """Return the four places beside a place."""
    row, column = place
    # Reading order, so that neighbors come out in ascending order.
    return [(row - 1, column), (row, column - 1), (row, column + 1), (row + 1, column)]


def neighbors_of(places):
    """Return for each place the numbers of the places beside it."""
    numbers = {place: cell for cell, place in enumerate(places)}
    near = []
    for place in places:
        near.append([numbers[beside] for beside in places_near(place) if beside in numbers])
    return near


def stations_of(tiles):
    """Return the cells of each station, where tiles are the tiles of the cells."""
    stations = []
    for letter in STATIONS:
        cells = [cell for cell, tile in enumerate(tiles) if tile.upper() == letter]
        if cells:
            stations.append(cells)
    return stations


def read_floor(text):
    """Return the floor of a map."""
    rows = read_rows(text)
    places = places_of(rows)
    tiles = [rows[row][column] for row, column in places]
    doors = [cell for cell, tile in enumerate(tiles) if is_door(tile)]
    return Floor(neighbors_of(places), doors, stations_of(tiles), places)
