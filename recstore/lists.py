"""Lists that grow and shrink (l1, r1)."""

from recstore.blocks import LIST_BLOCK, UNIT, block_size, block_units, check_room, find_block, give_back
from recstore.errors import BadField
from recstore.fields import write_field
from recstore.integers import write_word
from recstore.paths import field_at
from recstore.spots import list_index
from recstore.stored import find_record, kind_number, renew_headers, take_filled
from recstore.views import View

MOST_ITEMS = 60


def length(schema, data, number, version, name):
    """How many elements a list has in a record read as a version; raises BadField."""
    view = View(schema, data, number, version)
    return view.counts()[list_index(view.layout, name)]


def push(schema, data, number, name, value):
    """Adds an element behind the others; how many there are then. Raises BadField, OutOfRange and Full."""
    view = View(schema, data, number, None)
    index = list_index(view.layout, name)
    count = view.counts()[index]
    if count >= MOST_ITEMS:
        raise BadField("long")
    _, _, stride, fields = view.layout[3][index]
    added = _new_item(stride, fields, value)
    _put_list(view, index, _stored_items(view, index) + added, count + 1)
    return count + 1


def pop(schema, data, number, name):
    """Takes the last element away; how many there are then. Raises BadField."""
    view = View(schema, data, number, None)
    index = list_index(view.layout, name)
    count = view.counts()[index]
    if count == 0:
        raise BadField("empty")
    stride = view.layout[3][index][2]
    _put_list(view, index, _stored_items(view, index)[:-stride], count - 1)
    return count - 1


def fix_headers(schema, data):
    """Puts the present positions into all list headers."""
    renew_headers(schema, data)


def _stored_items(view, index):
    """The bytes of the elements of a list, as they are: a reference to nothing stays as it is (r5)."""
    count = view.counts()[index]
    if count == 0:
        return []
    start = view.start(index, 0)
    return view.data[start:start + count * view.layout[3][index][2]]


def _new_item(stride, fields, value):
    """The bytes of a new element."""
    content = [0] * stride
    if value is not None:
        # Only an element that is a word has a field with the empty path.
        field = field_at(fields, "")
        if field is None:
            raise BadField("no value")
        write_field(content, 0, field, value)
    return content


def _put_list(view, index, content, count):
    """Stores the elements of a list, in another block if they need more or fewer units."""
    data = view.data
    offset = find_block(data, view.number, LIST_BLOCK + index)
    had = 0 if offset is None else block_size(data, offset)
    needed = UNIT * block_units(len(content)) if content else 0
    if had == needed:
        data[offset + UNIT:offset + had] = content + [0] * (had - UNIT - len(content))
    else:
        check_room(data, had, needed)
        if had:
            give_back(data, offset)
        if needed:
            take_filled(data, kind_number(view.schema, view.name), LIST_BLOCK + index, view.number, content)
    # Taking a block can have moved the record.
    body = find_record(view.schema, data, view.number)[2]
    write_word(data, body + view.layout[3][index][1], 2, count)
    renew_headers(view.schema, data)
