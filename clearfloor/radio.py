"""Radios: letters that are on their way ([80], [81])."""


class Radio:
    """The letters on their way. Each may arrive in any order, may be lost, and may be doubled."""

    def __init__(self):
        self.letters = []

    def has(self, index):
        """Return whether there is a letter at an index."""
        return 0 <= index < len(self.letters)

    def send(self, letter):
        """Append a letter."""
        self.letters.append(letter)

    def take(self, index):
        """Remove the letter at an index and return it, or return None if there is none."""
        if not self.has(index):
            return None
        return self.letters.pop(index)

    def lose(self, index):
        """Remove the letter at an index, and return whether there is one."""
        return self.take(index) is not None

    def double(self, index):
        """Append the letter at an index once more, and return whether there is one."""
        if not self.has(index):
            return False
        self.send(self.letters[index])
        return True
