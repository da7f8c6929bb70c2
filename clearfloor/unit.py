"""Units: the true robots, which are steered by letters ([80], [81])."""


class Unit:
    """A true robot: where it is, how many lives it had before, and what it has done in this one."""

    def __init__(self, number, position):
        self.number = number
        self.position = position
        self.lives = 0
        self.done = 0
        self.works = True

    def told(self):
        """Return the letter that tells how this unit is."""
        return "told", self.number, self.lives, self.done, self.position, self.works

    def obey(self, lives, count, position):
        """Do a command if it is the next one of this life."""
        # An old letter may come late, and a letter may come twice.
        if self.works and lives == self.lives and count == self.done + 1:
            self.done = count
            self.position = position

    def hear(self, letter):
        """Return the letter that answers a letter, or None if this unit has no answer."""
        if letter[0] == "told" or letter[1] != self.number:
            return None
        if letter[0] == "move":
            _, _, lives, count, position = letter
            self.obey(lives, count, position)
        return self.told()

    def fail(self):
        """Work no more."""
        self.works = False

    def repair(self, position):
        """Begin a new life at a position."""
        self.lives += 1
        self.done = 0
        self.position = position
        self.works = True
