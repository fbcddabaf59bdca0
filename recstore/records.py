"""Records in a store: new ones, their values, writing, selecting, deleting, upgrading (r1 to r7)."""

from recstore.blocks import LIST_BLOCK, UNIT, block_units, blocks, check_room
from recstore.cells import open_view
from recstore.fields import write_field
from recstore.integers import write_word
from recstore.layouts import declaration, layout
from recstore.paths import field_at
from recstore.refusals import alternative_number, check_new_value, readable_spot, settable_spot, union_spot
from recstore.stored import find_record, give_back_all, kind_number, renew_headers, take_filled


def units(size):
    """The units of a block whose body has this many bytes."""
    return block_units(size)


def record_at(schema, data, number):
    """(name, version, offset of the body) of a record, or None."""
    return find_record(schema, data, number)


def new_record(schema, data, name, version, number):
    """Stores a new record with its initial values; raises Full."""
    size, _, fields, _ = layout(schema, name, version)
    content = [0] * size
    for field_name, _, _, initial in declaration(schema, name, version):
        if initial is not None:
            write_field(content, 0, field_at(fields, field_name), initial)
    take_filled(data, kind_number(schema, name), version, number, content)
    renew_headers(schema, data)


def values(schema, data, number, version, path):
    """The list of the pairs (path, value) of the active fields to which a path leads; raises BadField."""
    view = open_view(schema, data, number, version)
    return view.pairs(view.active_spots(path))


def value(schema, data, number, version, path):
    """The value of one field; raises BadField."""
    view = open_view(schema, data, number, version)
    return view.value(readable_spot(view, path))


def set_value(schema, data, number, path, value):
    """Writes a field that is no tag; raises BadField and OutOfRange."""
    view = open_view(schema, data, number, None)
    spot = settable_spot(view, path)
    check_new_value(view, spot, value)
    view.cells.write(spot, value)


def select(schema, data, number, path, name):
    """Selects an alternative, or none for the name None; raises BadField."""
    view = open_view(schema, data, number, None)
    spot = union_spot(view, path)
    view.cells.select(spot, view.plan.kind(spot), alternative_number(view, spot, name))


def delete(schema, data, number):
    """Gives back all blocks of a record."""
    # No other block moves, so that all other list headers stay right.
    give_back_all(data, number)


def upgrade(schema, data, number, version):
    """Stores a record as a newer version; raises Full."""
    view = open_view(schema, data, number, version)
    content = _own_content(view)
    lists = [_list_content(view, index) for index in range(len(view.layout[3]))]
    fewer = sum([block[1] for block in blocks(data) if block[2] == number])
    more = block_units(len(content)) + sum([block_units(len(items)) for items in lists if items])
    check_room(data, fewer, UNIT * more)
    kind = kind_number(schema, view.plan.name)
    give_back_all(data, number)
    take_filled(data, kind, version, number, content)
    for index, items in enumerate(lists):
        if items:
            take_filled(data, kind, LIST_BLOCK + index, number, items)
    renew_headers(schema, data)


def _own_content(view):
    """The bytes of a record itself, stored as the version as which it is read, with the counts of its lists."""
    content = [0] * view.layout[0]
    _write_active(view, content, view.spots(""))
    for entry, count in zip(view.layout[3], view.counts()):
        write_word(content, entry[1], 2, count)
    return content


def _list_content(view, index):
    """The bytes of the elements of a list, stored as the version as which the record is read."""
    name, _, stride, _ = view.layout[3][index]
    content = [0] * (stride * view.counts()[index])
    _write_active(view, content, view.spots(name))
    return content


def _write_active(view, content, found):
    """Puts the values at the active spots into the content of the record itself or of a list."""
    for spot in found:
        index, item, field = spot
        start = 0 if index is None else item * view.layout[3][index][2]
        if view.active(spot):
            write_field(content, start, field, view.value(spot))
