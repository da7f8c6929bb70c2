"""The dispatcher: a fleet that is steered by letters ([80] to [86])."""

from clearfloor.acts import act_of
from clearfloor.errors import RefusedError
from clearfloor.events import happen, why_no_order, why_not
from clearfloor.fleet import Fleet
from clearfloor.radio import Radio
from clearfloor.unit import Unit


class Dispatch:
    """A fleet as the dispatcher knows it, the true robots, and the letters between them."""

    def __init__(self, floor, *, robots, patience=4):
        self.fleet = Fleet(floor, robots=robots, patience=patience)
        self.units = [Unit(number, floor.depot) for number in range(robots)]
        self.radio = Radio()
        self.pending = None
        # What the dispatcher knows: the lives of each unit, and the commands that it has done in this one.
        self.lives = [0] * robots
        self.counts = [0] * robots
        self.held = []

    def learn(self, event):
        """Let an event happen if it can, or let it wait as long as a command is pending."""
        if self.pending is not None:
            self.held.append(event)
        elif why_not(self.fleet, event) is None:
            self.fleet = happen(self.fleet, event)

    def settle(self):
        """Have nothing pending any more; so what has waited happens, in its order."""
        self.pending = None
        events = list(self.held)
        self.held = []
        for event in events:
            self.learn(event)

    def order(self, start, goal):
        """Give an order, by the numbers of its stations."""
        reason = why_no_order(self.fleet, start, goal)
        if reason is not None:
            raise RefusedError(reason)
        self.learn(("order", start, goal))

    def next_act(self, robot):
        """Return the act of a robot that may begin now, or None."""
        if self.pending is not None or not 0 <= robot < len(self.units):
            return None
        return act_of(self.fleet, robot)

    def command(self, robot):
        """Begin the act of a robot and return its name, or return None."""
        act = self.next_act(robot)
        if act is None:
            return None
        name, behind = act
        if name in ("load", "unload"):
            self.learn(("go", robot))
        else:
            position = behind.robots[robot].place
            self.pending = ("move", robot, self.lives[robot], self.counts[robot] + 1, position)
            self.resend()
        return name

    def resend(self):
        """Send the pending command once more, and return whether there is one."""
        if self.pending is None:
            return False
        self.radio.send(self.pending)
        return True

    def ask(self, robot):
        """Send a question to a robot."""
        self.radio.send(("ask", robot))

    def confirm(self, robot, count):
        """Let the act of the pending command happen in the fleet."""
        self.counts[robot] = count
        self.fleet = happen(self.fleet, ("go", robot))
        self.settle()

    def pending_count(self, robot):
        """Return the count of the command that is pending to a robot, or None."""
        if self.pending is None or self.pending[1] != robot:
            return None
        return self.pending[3]

    def hear(self, letter):
        """Take note of what a unit tells."""
        _, robot, lives, done, _, works = letter
        if lives < self.lives[robot]:
            return
        count = self.pending_count(robot)
        if count is not None and done == count:
            self.confirm(robot, count)
        elif count is not None and done < count and not works:
            # This unit can do the command no more, in this life or in a later one.
            self.settle()
        if not works:
            self.learn(("fail", robot))

    def deliver(self, index):
        """Let the letter at an index arrive, and return whether there is one."""
        letter = self.radio.take(index)
        if letter is None:
            return False
        if letter[0] == "told":
            self.hear(letter)
        else:
            for unit in self.units:
                answer = unit.hear(letter)
                if answer is not None:
                    self.radio.send(answer)
        return True

    def repair(self, robot):
        """Tow a broken robot and let its unit begin a new life in the depot; return whether this was done."""
        if self.pending is not None or why_not(self.fleet, ("tow", robot)) is not None:
            return False
        self.learn(("tow", robot))
        self.lives[robot] += 1
        self.counts[robot] = 0
        self.units[robot].repair(self.fleet.floor.depot)
        return True
