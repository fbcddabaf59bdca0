"""Where records are in a store, and what all calls that take blocks for them have to do (r1)."""

from recstore.blocks import LIST_BLOCK, UNIT, block_kind, block_units, blocks, find_block, give_back, take
from recstore.integers import write_word
from recstore.layouts import layout, types


def find_record(schema, data, number):
    """(name, version, offset of the body) of a record, or None."""
    offset = find_block(data, number, None)
    if offset is None:
        return None
    return kind_name(schema, block_kind(data, offset)), data[offset + 3], offset + UNIT


def kind_name(schema, kind):
    """The name of the record type with this number (y1)."""
    return types(schema)[kind - 1][0]


def kind_number(schema, name):
    """The number of a record type."""
    return [pair[0] for pair in types(schema)].index(name) + 1


def take_filled(data, kind, version, number, content):
    """Takes a block with this header for a content and puts it there."""
    offset = take(data, block_units(len(content)), kind, version, number)
    data[offset + UNIT:offset + UNIT + len(content)] = content


def give_back_all(data, number):
    """Gives back all blocks of a record."""
    # Where the others are, giving one back does not change.
    offsets = [block[0] for block in blocks(data) if block[2] == number]
    for offset in offsets:
        give_back(data, offset)


def renew_headers(schema, data):
    """Puts the present positions of all list blocks into the list headers."""
    found = blocks(data)
    positions = {(block[2], block[3]): block[0] // UNIT + 1 for block in found}
    headers = {}
    for offset, _, number, version in found:
        kind = block_kind(data, offset)
        if kind != 0 and version < LIST_BLOCK:
            if (kind, version) not in headers:
                headers[kind, version] = _header_offsets(schema, kind, version)
            for index, header in enumerate(headers[kind, version]):
                write_word(data, offset + UNIT + header + 2, 2, positions.get((number, LIST_BLOCK + index), 0))


def _header_offsets(schema, kind, version):
    """The offsets of the list headers in a version of the record type with this number."""
    return [entry[1] for entry in layout(schema, kind_name(schema, kind), version)[3]]
