"""Signs: the characters that a journal can hold, and their bytes ([53])."""

# The byte of a sign is its place in this row, from 1. So 0 is the byte of none.
SIGNS = "\n\t !\"#$&'()*+,-./0123456789:;<=>?@ABCDEFGHIJKLMNOPQRSTUVWXYZ[\\]^_`abcdefghijklmnopqrstuvwxyz{|}~"


def byte_of(sign):
    """Return the byte of a sign, 0 for a character that is not a sign."""
    for at, other in enumerate(SIGNS):
        if other == sign:
            return at + 1
    return 0


def is_plain(text):
    """Return whether all characters of a text are signs."""
    return all(byte_of(sign) > 0 for sign in text)


def bytes_of(text):
    """Return the bytes of a text."""
    return [byte_of(sign) for sign in text]


def text_of(row):
    """Return the text of bytes."""
    return "".join([SIGNS[byte - 1] for byte in row])
