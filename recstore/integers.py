"""Integers in slots of words (c1, z1, z2).

Data is a list of bytes; a word is told by its offset, its size and its byte
order, and a slot in it by its first bit, its width and whether it is signed.
"""

from recstore.errors import OutOfRange


def read_slot(data, offset, size, big, first, width, signed):
    """The integer in a slot."""
    number = _read_number(data, offset, size, big)
    value = (number >> first) & _ones(width)
    greatest = bounds(width, signed)[1]
    # In two's complement the numbers above the greatest integer are the negative ones.
    return value if value <= greatest else value - (1 << width)


def write_slot(data, offset, size, big, first, width, signed, value):
    """Puts an integer into a slot of data; raises OutOfRange if the slot cannot hold it."""
    least, greatest = bounds(width, signed)
    if value < least or value > greatest:
        raise OutOfRange()
    slot = _ones(width) << first
    number = _read_number(data, offset, size, big)
    others = number - (number & slot)
    _write_number(data, offset, size, big, others + ((value << first) & slot))


def read_word(data, offset, size):
    """The unsigned number of a whole little-endian word."""
    return _read_number(data, offset, size, False)


def write_word(data, offset, size, value):
    """Puts an unsigned number into a whole little-endian word of data."""
    write_slot(data, offset, size, False, 0, 8 * size, False, value)


def bounds(width, signed):
    """The pair of the least and the greatest integer that a slot can hold."""
    if signed:
        half = 1 << (width - 1)
        return -half, half - 1
    return 0, _ones(width)


def _ones(width):
    """The number whose lowest bits, width many, are set."""
    return (1 << width) - 1


def _places(offset, size, big):
    """The offsets of the bytes of a word, that of its lowest digit first."""
    places = list(range(offset, offset + size))
    return places[::-1] if big else places


def _read_number(data, offset, size, big):
    """The number of a word."""
    word = data[offset:offset + size]
    number = 0
    for byte in word if big else word[::-1]:
        number = number * 256 + byte
    return number


def _write_number(data, offset, size, big, number):
    """Puts the number of a word into data."""
    rest = number
    for place in _places(offset, size, big):
        data[place] = rest & 255
        rest = rest >> 8
