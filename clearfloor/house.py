"""Warehouses: fleets with a log, earlier states and a journal ([57] to [64])."""

from clearfloor.acts import act_of, first_robot
from clearfloor.analysis import most_acts
from clearfloor.answers import order_row, robot_row, told_act, told_distance, told_waiting
from clearfloor.effort import effort
from clearfloor.errors import LimitError, PowerCut, RefusedError, ShutError
from clearfloor.events import happen, run
from clearfloor.fleet import Fleet
from clearfloor.log import read_log, write_log
from clearfloor.maps import format_map, read_floor
from clearfloor.runs import drive

MOST_ORDERS = 200
MOST_EVENTS = 500
MOST_CHARACTERS = 4000
MOST_EARLIER = 16


class Warehouse:
    """A fleet on the floor of a map, with the events that made it and its earlier states."""

    def __init__(self, text, *, robots, patience=4, journal=None):
        self.floor = read_floor(text)
        self.fleet = Fleet(self.floor, robots=robots, patience=patience)
        self.events = []
        self.journal = journal
        self.is_shut = False
        self.first_record = f"robots {robots} patience {patience}\n{format_map(text)}"
        self.earlier = []
        if journal is not None:
            journal.rewrite([self.first_record])

    def check_open(self):
        """Raise ShutError if this warehouse is shut."""
        if self.is_shut:
            raise ShutError()

    def check_orders(self):
        """Raise LimitError if there are too many orders for one more."""
        if len(self.fleet.orders) >= MOST_ORDERS:
            raise LimitError("too many orders")

    def check_events(self):
        """Raise LimitError if there are too many events for one more."""
        if len(self.events) >= MOST_EVENTS:
            raise LimitError("too many events")

    def write_record(self, text):
        """Append a record to the journal if there is one. A cut shuts this warehouse."""
        if self.journal is not None:
            try:
                self.journal.write_record(text)
            except PowerCut:
                self.is_shut = True
                raise

    def change(self, events, behind):
        """Take the fleet behind some events, and remember the state before them."""
        # The record goes first: if it raises an error, nothing is changed.
        self.write_record(write_log(events))
        self.earlier = (self.earlier + [(self.fleet, self.events)])[-MOST_EARLIER:]
        self.fleet = behind
        self.events = self.events + events

    def order(self, start, goal):
        """Give an order by the letters of its stations, and return its number."""
        self.check_open()
        self.check_orders()
        self.check_events()
        numbers = [self.floor.station(letter) for letter in (start, goal)]
        if None in numbers:
            raise RefusedError("no such station")
        event = ("order", numbers[0], numbers[1])
        self.change([event], happen(self.fleet, event))
        return len(self.fleet.orders) - 1

    def robot_event(self, word, robot):
        """Let one event of a robot happen."""
        self.check_open()
        self.check_events()
        self.change([(word, robot)], happen(self.fleet, (word, robot)))

    def go(self, robot):
        """Let a robot go, and return the name of its act and its place then."""
        told = self.act(robot)
        self.robot_event("go", robot)
        return told

    def fail(self, robot):
        """Let a robot fail."""
        self.robot_event("fail", robot)

    def tow(self, robot):
        """Tow a robot."""
        self.robot_event("tow", robot)

    def drive(self, *, seed, most, count):
        """Let the events of a run happen, and return their text."""
        self.check_open()
        self.check_orders()
        self.check_events()
        events, behind = drive(self.fleet, seed=seed, most=most, count=count)
        self.change(events, behind)
        return write_log(events)

    def replay(self, text):
        """Let the events of a log happen, and return how many they are."""
        self.check_open()
        if len(text) > MOST_CHARACTERS:
            raise LimitError("log is too long")
        events = read_log(text)
        behind = run(self.fleet, events)
        self.check_events()
        self.change(events, behind)
        return len(events)

    def undo(self):
        """Return to the newest earlier state, and return whether there is one."""
        self.check_open()
        if not self.earlier:
            return False
        self.write_record("undo")
        self.fleet, self.events = self.earlier[-1]
        self.earlier = self.earlier[:-1]
        return True

    def pack(self):
        """Drop the earlier states, and replace the records of the journal by as few as will do."""
        self.check_open()
        if self.journal is not None:
            texts = ["log\n" + self.log()] if self.events else []
            try:
                self.journal.rewrite([self.first_record] + texts)
            except PowerCut:
                self.is_shut = True
                raise
        self.earlier = []

    def robot_rows(self):
        """Return a row for each robot: place, broken, order, loaded, places of its way."""
        return [robot_row(self.fleet, robot) for robot in range(len(self.fleet.robots))]

    def order_rows(self):
        """Return a row for each order: letters of start and goal, done, robot, loaded."""
        return [order_row(order) for order in self.fleet.orders]

    def ready(self):
        """Return the robots that have an act, ascending."""
        return [robot for robot in range(len(self.fleet.robots)) if act_of(self.fleet, robot) is not None]

    def act(self, robot):
        """Return the name of the act of a robot and its place behind it, or None."""
        return told_act(self.fleet, robot)

    def waits(self, robot):
        """Return why a robot waits and its hindrances, or None if it has an act."""
        return told_waiting(self.fleet, robot)

    def first(self):
        """Return the first robot, or None."""
        return first_robot(self.fleet)

    def distance(self, robot, letter):
        """Return the distance of a robot to the station with a letter, or None."""
        return told_distance(self.fleet, robot, letter)

    def log(self):
        """Return the text of the log."""
        return write_log(self.events)

    def bound(self):
        """Return the most acts that are done before one more order is done."""
        return most_acts(self.floor, len(self.fleet.robots))

    def effort(self):
        """Return the effort of the fleet."""
        return effort(self.fleet)


def redo(house, record):
    """Do the change of a record in a warehouse without a journal."""
    if record == "undo":
        house.undo()
        return
    word, _, rest = record.partition("\n")
    is_packed = word == "log"
    events = read_log(rest if is_packed else record)
    # Runs and replays may have gone beyond the limits, so these are not checked again.
    house.change(events, run(house.fleet, events))
    if is_packed:
        house.pack()


def opened(journal):
    """Return the warehouse of a journal."""
    texts = journal.texts()
    if not texts:
        raise LimitError("journal is empty")
    line, _, text = texts[0].partition("\n")
    words = line.split(" ")
    house = Warehouse(text, robots=int(words[1]), patience=int(words[3]))
    for record in texts[1:]:
        redo(house, record)
    house.journal = journal
    return house
