"""Reports: texts with a line for each robot and for each order ([76] to [79]).

Rows of robots are (place, broken, order, loaded, way), rows of orders (start, goal, done, robot, loaded).
"""

from clearfloor.errors import LineError
from clearfloor.log import read_number
from clearfloor.maps import STATIONS


def write_place(place):
    """Return the word of a place, where None is the depot."""
    if place is None:
        return "depot"
    row, column = place
    return f"{row}:{column}"


def write_robot(number, row):
    """Return the line of a robot."""
    place, broken, order, loaded, way = row
    words = ["robot", str(number), write_place(place), "broken" if broken else "runs"]
    if order is not None:
        words += ["loaded" if loaded else "empty", str(order)]
    if way:
        words += ["way"] + [write_place(cell) for cell in way]
    return " ".join(words)


def write_order(number, row):
    """Return the line of an order."""
    start, goal, done, robot, loaded = row
    words = ["order", str(number), start, goal]
    if done:
        words.append("done")
    elif robot is None:
        words.append("waits")
    else:
        words += ["loaded" if loaded else "empty", str(robot)]
    return " ".join(words)


def write_report(robots, orders):
    """Return the report of rows of robots and rows of orders."""
    lines = [write_robot(number, row) for number, row in enumerate(robots)]
    return "\n".join(lines + [write_order(number, row) for number, row in enumerate(orders)])


def read_place(word):
    """Return the place of a cell, or None."""
    parts = [read_number(part) for part in word.split(":")]
    if len(parts) != 2 or None in parts:
        return None
    return parts[0], parts[1]


def read_share(words):
    """Return (loaded, number) of the two words that tell of a load, or None."""
    if len(words) != 2 or words[0] not in ("loaded", "empty"):
        return None
    number = read_number(words[1])
    return None if number is None else (words[0] == "loaded", number)


def read_way(words):
    """Return the places of the words of a way, the empty list of no words, or None."""
    places = [read_place(word) for word in words[1:]]
    if words and (words[0] != "way" or not places or None in places):
        return None
    return places


def read_errand(words):
    """Return (order, loaded, way) of what stands behind the state of a robot, or None."""
    order = None
    loaded = False
    further = words
    if words and words[0] != "way":
        share = read_share(words[:2])
        if share is None:
            return None
        loaded, order = share
        further = words[2:]
    way = read_way(further)
    return None if way is None else (order, loaded, way)


def read_robot(number, words):
    """Return the row of the robot with this number, or None."""
    if len(words) < 4 or words[0] != "robot" or read_number(words[1]) != number:
        return None
    place = read_place(words[2])
    errand = read_errand(words[4:])
    # The depot has no place, but a word.
    if (place is None and words[2] != "depot") or words[3] not in ("broken", "runs") or errand is None:
        return None
    order, loaded, way = errand
    return place, words[3] == "broken", order, loaded, way


def is_letter(word):
    """Return whether a word is the letter of a station."""
    return len(word) == 1 and word in STATIONS


def read_order_state(words):
    """Return (done, robot, loaded) of what stands behind the letters of an order, or None."""
    if words == ["done"]:
        return True, None, False
    if words == ["waits"]:
        return False, None, False
    share = read_share(words)
    if share is None:
        return None
    loaded, robot = share
    return False, robot, loaded


def read_order_row(number, words):
    """Return the row of the order with this number, or None."""
    if len(words) < 4 or words[0] != "order" or read_number(words[1]) != number:
        return None
    state = read_order_state(words[4:])
    if not is_letter(words[2]) or not is_letter(words[3]) or state is None:
        return None
    done, robot, loaded = state
    return words[2], words[3], done, robot, loaded


def read_report(text):
    """Return the rows of the robots and the rows of the orders of a report."""
    robots = []
    orders = []
    # The empty text has no line at all.
    lines = text.split("\n") if text else []
    for at, line in enumerate(lines):
        words = line.split(" ")
        robot = None if orders else read_robot(len(robots), words)
        order = read_order_row(len(orders), words)
        if robot is not None:
            robots.append(robot)
        elif order is not None:
            orders.append(order)
        else:
            raise LineError(at + 1)
    return robots, orders
