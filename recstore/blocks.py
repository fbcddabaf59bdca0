"""The blocks of a store: taking them, giving them back, pushing them together, growing (b1 to b5)."""

from recstore.errors import Full
from recstore.integers import read_word, write_word

UNIT = 8
# The byte with the version of a record's own block is less; that of a list block is this and the list's index.
LIST_BLOCK = 128


def empty(size):
    """The bytes of a store with one free block."""
    data = [0] * size
    _make_free(data, 0, size)
    return data


def blocks(data):
    """The list of the blocks: (offset, size, number of the record, version or list)."""
    found = []
    offset = 0
    while offset < len(data):
        size = block_size(data, offset)
        found.append((offset, size, read_word(data, offset + 4, 4), data[offset + 3]))
        offset += size
    return found


def used(data):
    """How many bytes the blocks have that are not free."""
    return sum([block[1] for block in blocks(data) if block_kind(data, block[0]) != 0])


def take(data, units, kind, version, number):
    """Takes a block with this header; its offset. Raises Full."""
    size = UNIT * units
    check_room(data, 0, size)
    if _lowest_free(data, size) is None:
        push_together(data)
    offset, free_size = _lowest_free(data, size)
    _make_free(data, offset + size, offset + free_size)
    write_word(data, offset, 2, units)
    write_word(data, offset + 2, 1, kind)
    write_word(data, offset + 3, 1, version)
    write_word(data, offset + 4, 4, number)
    return offset


def give_back(data, offset):
    """Makes a block free, joined with free neighbours."""
    end = offset + block_size(data, offset)
    free = [block[:2] for block in blocks(data) if block_kind(data, block[0]) == 0]
    starts = [other for other, size in free if other + size == offset]
    ends = [other + size for other, size in free if other == end]
    _make_free(data, min(starts + [offset]), max(ends + [end]))


def push_together(data):
    """Moves all blocks that are not free to the beginning."""
    kept = []
    for offset, size, _, _ in blocks(data):
        if block_kind(data, offset) != 0:
            kept.extend(data[offset:offset + size])
    data[:len(kept)] = kept
    _make_free(data, len(kept), len(data))


def grow(data, size):
    """Adds free bytes, up to this number of them in all."""
    last = blocks(data)[-1][0]
    start = last if block_kind(data, last) == 0 else len(data)
    _make_free(data, start, size)


def find_block(data, number, version):
    """The offset of the block of a record with this number and this byte, or None.

    For version None it is the record's own block.
    """
    offset = 0
    while offset < len(data):
        byte = data[offset + 3]
        fits = byte < LIST_BLOCK if version is None else byte == version
        if fits and block_kind(data, offset) != 0 and read_word(data, offset + 4, 4) == number:
            return offset
        offset += block_size(data, offset)
    return None


def block_size(data, offset):
    """How many bytes a block has."""
    return UNIT * read_word(data, offset, 2)


def block_kind(data, offset):
    """The number of the record type of a block, or 0 if it is free."""
    return data[offset + 2]


def block_units(size):
    """The units of a block whose body has this many bytes."""
    return 1 + (size + UNIT - 1) // UNIT


def check_room(data, fewer, more):
    """Raises Full if there is no room for more bytes of blocks when fewer are given back (r7)."""
    if used(data) - fewer + more > len(data):
        raise Full()


def _lowest_free(data, size):
    """The offset and the size of the lowest free block that has at least this size, or None."""
    for offset, free_size, _, _ in blocks(data):
        if block_kind(data, offset) == 0 and free_size >= size:
            return offset, free_size
    return None


def _make_free(data, start, end):
    """Makes the bytes from start to end a free block, if there are any; data gets those that it has not."""
    data[start:end] = [0] * (end - start)
    if end > start:
        write_word(data, start, 2, (end - start) // UNIT)
