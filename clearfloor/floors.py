"""Floors: cells, doors, stations and the depot ([12], [13])."""

LETTERS = "ABCDEFGHIJKLMNOPQRSTUVWXYZ"


class Floor:
    """The cells that robots can stand on, and the depot outside of them."""

    def __init__(self, near, doors, stations, places):
        self.near = [list(cells) for cells in near]
        self.doors = list(doors)
        self.stations = [list(cells) for cells in stations]
        self.places = list(places)
        self.size = len(self.near)
        self.depot = self.size

    def around(self, position):
        """Return the positions next to a position, the depot last."""
        if position == self.depot:
            return list(self.doors)
        if position in self.doors:
            return self.near[position] + [self.depot]
        return list(self.near[position])

    def place(self, position):
        """Return the row and the column of a cell, and None for the depot."""
        if position == self.depot:
            return None
        return self.places[position]

    def cell_at(self, row, column):
        """Return the cell at a place, or None if there is none."""
        for cell, place in enumerate(self.places):
            if place == (row, column):
                return cell
        return None

    def station(self, letter):
        """Return the number of the station with a capital letter, or None."""
        for number, name in enumerate(LETTERS[:len(self.stations)]):
            if name == letter:
                return number
        return None


def floor_of(near, doors, stations):
    """Return a floor without a map: all its cells lie in row 0."""
    return Floor(near, doors, stations, [(0, cell) for cell in range(len(near))])
