"""Pictures of fleets ([75])."""

from clearfloor.waiting import robot_on

ROBOT_SIGNS = "0123456789abcdefghijklmnopqrstuvwxyz"


def robot_sign(number):
    """Return the sign of a robot that runs."""
    # A fleet without a warehouse may have more robots than there are signs.
    return ROBOT_SIGNS[number] if number < len(ROBOT_SIGNS) else "?"


def sign_at(fleet, cell):
    """Return the character of a cell."""
    number = robot_on(fleet, cell)
    if number is None:
        return "."
    return "X" if fleet.robots[number].broken else robot_sign(number)


def picture_of(floor, signs):
    """Return the picture of a floor, where signs are the characters of its cells."""
    drawn = dict(zip(floor.places, signs))
    rows = 1 + max([row for row, _ in floor.places], default=-1)
    columns = 1 + max([column for _, column in floor.places], default=-1)
    lines = [[drawn.get((row, column), "#") for column in range(columns)] for row in range(rows)]
    return "\n".join(["".join(line) for line in lines])


def picture(fleet):
    """Return the picture of a fleet."""
    return picture_of(fleet.floor, [sign_at(fleet, cell) for cell in range(fleet.floor.size)])


def way_picture(fleet, robot):
    """Return the picture of a fleet with stars on the way of a robot, but for its first cell."""
    ahead = fleet.robots[robot].way[1:]
    signs = ["*" if cell in ahead else sign_at(fleet, cell) for cell in range(fleet.floor.size)]
    return picture_of(fleet.floor, signs)
