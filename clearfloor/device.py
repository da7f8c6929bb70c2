"""Devices: rows of bytes that are written as long as there is power ([52])."""

from clearfloor.errors import PowerCut


class Device:
    """A row of bytes. Its power is the number of bytes that can still be written; None is no limit."""

    def __init__(self, size, *, power=None):
        self.data = [0] * size
        self.size = size
        self.power = power
        self.written = 0

    def write(self, start, row):
        """Write bytes, one after another, from a place on."""
        for at, byte in enumerate(row):
            if self.power == 0:
                raise PowerCut(self.written)
            self.data[start + at] = byte
            self.written += 1
            if self.power is not None:
                self.power -= 1

    def read(self, start, many):
        """Return bytes from a place on."""
        return self.data[start:start + many]

    def recharge(self, power=None):
        """Set the power."""
        self.power = power
