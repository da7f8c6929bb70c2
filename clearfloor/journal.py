"""Journals: records on a device that stand a loss of power at any byte ([54] to [56])."""

from clearfloor.errors import LimitError
from clearfloor.signs import bytes_of, text_of

MARK = 1
END = 0
# A record has its mark and the two bytes of its length ahead of its text.
AHEAD = 3
LENGTHS = 256
MOST_CHARACTERS = 65535
LEAST_SIZE = 3
FULL = "journal is full"


def area_size(device):
    """Return the size of each of the two areas of a device."""
    return (device.size - 1) // 2


def area_start(device, area):
    """Return the first place of an area."""
    return 1 + (area - 1) * area_size(device)


def format_device(device):
    """Write an empty journal to a device, and return it."""
    if device.size < LEAST_SIZE:
        raise LimitError(FULL)
    device.write(0, [0])
    device.write(area_start(device, 1), [END])
    device.write(0, [1])
    return Journal(device)


def valid_area(device):
    """Return the number of the valid area, or None if the device has no journal."""
    header = device.read(0, 1)
    for area in (1, 2):
        if header == [area]:
            return area
    return None


def record_of(text):
    """Return the bytes of the record with a text."""
    row = bytes_of(text)
    return [MARK, len(row) % LENGTHS, len(row) // LENGTHS] + row


def read_records(device):
    """Return the texts of the records of a device, and the place of the byte behind them."""
    texts = []
    place = area_start(device, valid_area(device))
    while device.read(place, 1) == [MARK]:
        low, high = device.read(place + 1, 2)
        many = low + LENGTHS * high
        texts.append(text_of(device.read(place + AHEAD, many)))
        place += AHEAD + many
    return texts, place


class Journal:
    """The journal of a device that has one."""

    def __init__(self, device):
        self.device = device

    def texts(self):
        """Return the texts of the records."""
        texts, _ = read_records(self.device)
        return texts

    def room(self):
        """Return how many characters one more record can have, below 0 if there is no room for any."""
        _, place = read_records(self.device)
        beyond = area_start(self.device, valid_area(self.device)) + area_size(self.device)
        # The byte behind the last record needs a place, too; and two bytes tell no greater length.
        return min(beyond - place - AHEAD - 1, MOST_CHARACTERS)

    def write_record(self, text):
        """Append a record."""
        if len(text) > self.room():
            raise LimitError(FULL)
        _, place = read_records(self.device)
        # The mark is written last: as long as it is missing, the record is not there.
        self.device.write(place + 1, record_of(text)[1:] + [END])
        self.device.write(place, [MARK])

    def rewrite(self, texts):
        """Replace the records."""
        row = [byte for text in texts for byte in record_of(text)] + [END]
        if len(row) > area_size(self.device) or any(len(text) > MOST_CHARACTERS for text in texts):
            raise LimitError(FULL)
        area = 3 - valid_area(self.device)
        # The old records stay valid until all of the new ones stand in the other area.
        self.device.write(area_start(self.device, area), row)
        self.device.write(0, [area])
