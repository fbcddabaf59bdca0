"""Images of stores: writing, judging and reading them (i1, i2)."""

from recstore.imageblocks import Inspection, headers_fault
from recstore.integers import read_word, write_word

# Ahead of the bytes of the store its size and the next number stand in the image, behind them the sum.
STORE_BEGIN = 8
SUM_SIZE = 4
FRAME_SIZE = STORE_BEGIN + SUM_SIZE
LEAST_LENGTH = 76
GREATEST_LENGTH = 1036
GREATEST_NEXT = 10000
SUM_BASE = 65521


def write_image(data, next_number):
    """The image of a store with these bytes and this next number."""
    image = _digits(len(data)) + _digits(next_number) + list(data)
    return image + _digits(_sum(image))


def check_image(schema, image):
    """None, or the pair (offset, reason) of the first fault of an image."""
    fault = _frame_fault(image)
    if fault is not None:
        return fault
    data, next_number = read_image(image)
    found = headers_fault(data)
    if found is None:
        found = Inspection(schema, data, next_number).first_fault()
    return None if found is None else (STORE_BEGIN + found[0], found[1])


def read_image(image):
    """The pair (bytes of the store, next number) of a right image."""
    return image[STORE_BEGIN:len(image) - SUM_SIZE], read_word(image, 4, 4)


def _frame_fault(image):
    """The pair (offset, reason) of the first fault around the bytes of the store, or None."""
    length = len(image)
    if length < LEAST_LENGTH or length > GREATEST_LENGTH or (length - FRAME_SIZE) % 8 != 0:
        return 0, "image length"
    if read_word(image, 0, 4) != length - FRAME_SIZE:
        return 0, "store size"
    if read_word(image, length - SUM_SIZE, SUM_SIZE) != _sum(image[:length - SUM_SIZE]):
        return length - SUM_SIZE, "sum"
    if read_word(image, 4, 4) == 0 or read_word(image, 4, 4) > GREATEST_NEXT:
        return 4, "next record number"
    return None


def _sum(content):
    """The sum over all bytes ahead of it."""
    return sum([(byte + 1) * place for place, byte in enumerate(content, 1)]) % SUM_BASE


def _digits(number):
    """The 4 bytes of a number."""
    content = [0] * 4
    write_word(content, 0, 4, number)
    return content
