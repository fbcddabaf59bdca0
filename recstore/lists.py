"""Lists that grow and shrink (l1, r1)."""

from recstore.blocks import LIST_BLOCK, UNIT, block_size, block_units, check_room, find_block, give_back
from recstore.cells import open_view
from recstore.fields import write_field
from recstore.integers import write_word
from recstore.paths import field_at
from recstore.refusals import check_pop, check_push
from recstore.spots import list_index
from recstore.stored import find_record, kind_number, renew_headers, take_filled


def length(schema, data, number, version, name):
    """How many elements a list has in a record read as a version; raises BadField."""
    view = open_view(schema, data, number, version)
    return view.counts()[list_index(view.layout, name)]


def push(schema, data, number, name, value):
    """Adds an element behind the others; how many there are then. Raises BadField, OutOfRange and Full."""
    view = open_view(schema, data, number, None)
    index = list_index(view.layout, name)
    check_push(view, index, value)
    return add_item(view, index, value)


def pop(schema, data, number, name):
    """Takes the last element away; how many there are then. Raises BadField."""
    view = open_view(schema, data, number, None)
    index = list_index(view.layout, name)
    check_pop(view, index)
    return drop_item(view, index)


def fix_headers(schema, data):
    """Puts the present positions into all list headers."""
    renew_headers(schema, data)


def add_item(view, index, value):
    """Adds an element to a list of a record in bytes; how many there are then. Raises Full."""
    _, _, stride, fields = view.layout[3][index]
    added = [0] * stride
    if value is not None:
        write_field(added, 0, field_at(fields, ""), value)
    return _put_list(view, index, view.cells.stored_items(index) + added)


def drop_item(view, index):
    """Takes the last element of a list of a record in bytes away; how many there are then."""
    return _put_list(view, index, view.cells.stored_items(index)[:-view.layout[3][index][2]])


def _put_list(view, index, content):
    """Stores the elements of a list, in another block if they need more or fewer units; how many they are."""
    schema, data, number = view.plan.schema, view.cells.data, view.cells.number
    _, header, stride, _ = view.layout[3][index]
    offset = find_block(data, number, LIST_BLOCK + index)
    had = 0 if offset is None else block_size(data, offset)
    needed = UNIT * block_units(len(content)) if content else 0
    if had == needed:
        data[offset + UNIT:offset + had] = content + [0] * (had - UNIT - len(content))
    else:
        check_room(data, had, needed)
        if had:
            give_back(data, offset)
        if needed:
            take_filled(data, kind_number(schema, view.plan.name), LIST_BLOCK + index, number, content)
    # Taking a block can have moved the record.
    body = find_record(schema, data, number)[2]
    write_word(data, body + header, 2, len(content) // stride)
    renew_headers(schema, data)
    return len(content) // stride
