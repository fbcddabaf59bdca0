"""Records in a store: new ones, their values, writing, selecting, deleting, upgrading (r1 to r7)."""

from recstore.blocks import LIST_BLOCK, UNIT, block_units, blocks, check_room
from recstore.errors import BadField
from recstore.fields import check_range, write_field
from recstore.layouts import declaration, layout, size_of
from recstore.paths import field_at
from recstore.spots import spot_path
from recstore.stored import find_record, give_back_all, kind_number, renew_headers, take_filled
from recstore.views import View


def units(size):
    """The units of a block whose body has this many bytes."""
    return block_units(size)


def record_at(schema, data, number):
    """(name, version, offset of the body) of a record, or None."""
    return find_record(schema, data, number)


def new_record(schema, data, name, version, number):
    """Stores a new record with its initial values; raises Full."""
    size, _, fields, _ = layout(schema, name, version)
    content = [0] * size
    for field_name, _, _, initial in declaration(schema, name, version):
        if initial is not None:
            write_field(content, 0, field_at(fields, field_name), initial)
    take_filled(data, kind_number(schema, name), version, number, content)
    renew_headers(schema, data)


def values(schema, data, number, version, path):
    """The list of the pairs (path, value) of the active fields to which a path leads; raises BadField."""
    view = View(schema, data, number, version)
    found = view.spots(path)
    active = [spot for spot in found if view.active(spot)]
    if found and not active:
        raise BadField("not active")
    return [(spot_path(view.layout, spot), view.value(spot)) for spot in active]


def value(schema, data, number, version, path):
    """The value of one field; raises BadField."""
    view = View(schema, data, number, version)
    spot = view.spot(path)
    if not view.active(spot):
        raise BadField("not active")
    return view.value(spot)


def set_value(schema, data, number, path, value):
    """Writes a field that is no tag; raises BadField and OutOfRange."""
    view = View(schema, data, number, None)
    spot = view.spot(path)
    index, item, field = spot
    if field[7] == "tag":
        raise BadField("tag")
    if not view.active(spot):
        raise BadField("not active")
    check_range(field, value)
    if field[7] == "reference" and value != 0 and not view.refers(spot, value):
        raise BadField("no such record")
    write_field(data, view.start(index, item), field, value)


def select(schema, data, number, path, name):
    """Selects an alternative, or none for the name None; raises BadField."""
    view = View(schema, data, number, None)
    spot = view.spot(path)
    index, item, field = spot
    if field[7] != "tag":
        raise BadField("not a union")
    if not view.active(spot):
        raise BadField("not active")
    kind = view.kind(spot)
    if name is not None and name not in kind[1]:
        raise BadField("no such alternative")
    offset = view.start(index, item) + field[1]
    size = size_of(schema, kind)
    data[offset:offset + size] = [0] * size
    data[offset] = 0 if name is None else kind[1].index(name) + 1


def delete(schema, data, number):
    """Gives back all blocks of a record."""
    # No other block moves, so that all other list headers stay right.
    give_back_all(data, number)


def upgrade(schema, data, number, version):
    """Stores a record as a newer version; raises Full."""
    view = View(schema, data, number, version)
    content = view.own_content()
    lists = [view.list_content(index) for index in range(len(view.layout[3]))]
    fewer = sum([block[1] for block in blocks(data) if block[2] == number])
    more = block_units(len(content)) + sum([block_units(len(items)) for items in lists if items])
    check_room(data, fewer, UNIT * more)
    kind = kind_number(schema, view.name)
    give_back_all(data, number)
    take_filled(data, kind, version, number, content)
    for index, items in enumerate(lists):
        if items:
            take_filled(data, kind, LIST_BLOCK + index, number, items)
    renew_headers(schema, data)
