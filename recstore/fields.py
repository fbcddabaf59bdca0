"""Reading and writing scalar fields (c6), whose offsets are counted from a place in data."""

from recstore.errors import OutOfRange
from recstore.integers import bounds, read_slot, write_slot


def read_field(data, start, field):
    """The integer of a scalar field of what begins at start."""
    _, offset, size, big, first, width, signed, _, _ = field
    return read_slot(data, start + offset, size, big, first, width, signed)


def write_field(data, start, field, value):
    """Puts an integer into a scalar field of what begins at start; raises OutOfRange."""
    _, offset, size, big, first, width, signed, _, _ = field
    write_slot(data, start + offset, size, big, first, width, signed, value)


def check_range(field, value):
    """Raises OutOfRange if a scalar field cannot hold an integer."""
    least, greatest = bounds(field[5], field[6])
    if value < least or value > greatest:
        raise OutOfRange()


def mark_field(marked, start, field):
    """Sets all bits of a scalar field of what begins at start."""
    _, offset, size, big, first, width, _, _, _ = field
    write_slot(marked, start + offset, size, big, first, width, False, (1 << width) - 1)
