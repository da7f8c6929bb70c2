"""Events as lines, and rows of events as texts ([48], [49])."""

from clearfloor.errors import LineError
from clearfloor.floors import LETTERS

FIGURES = "0123456789"
MOST_FIGURES = 6


def write_event(event):
    """Return the line of an event."""
    if event[0] == "order":
        return f"order {LETTERS[event[1]]} {LETTERS[event[2]]}"
    return f"{event[0]} {event[1]}"


def read_number(text):
    """Return the number of one to six figures without leading zeros, or None."""
    if not 1 <= len(text) <= MOST_FIGURES:
        return None
    if any(sign not in FIGURES for sign in text):
        return None
    if text[0] == "0" and len(text) > 1:
        return None
    return int(text)


def read_order(parts):
    """Return the order of a list of two letters, or None."""
    if len(parts) != 2:
        return None
    # A longer text, or the empty one, could be found within the letters.
    if any(len(part) != 1 or part not in LETTERS for part in parts):
        return None
    return "order", LETTERS.index(parts[0]), LETTERS.index(parts[1])


def read_event(line):
    """Return the event of a line, or None if it is not an event."""
    parts = line.split(" ")
    word = parts[0]
    if word == "order":
        return read_order(parts[1:])
    if word not in ("go", "fail", "tow") or len(parts) != 2:
        return None
    robot = read_number(parts[1])
    return None if robot is None else (word, robot)


def write_log(events):
    """Return the text of events."""
    return "\n".join([write_event(event) for event in events])


def read_log(text):
    """Return the events of a text."""
    events = []
    # The empty text has no line at all.
    lines = text.split("\n") if text else []
    for at, line in enumerate(lines):
        event = read_event(line)
        if event is None:
            raise LineError(at + 1)
        events.append(event)
    return events
