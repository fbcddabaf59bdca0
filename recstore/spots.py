"""Spots: the scalar fields of a record itself, and those of each element of its lists (p1, p2).

A spot is (index of a list or None, index of an element or None, scalar field);
the first two are None for a field of the record itself. Counts are the numbers
of elements of the lists of a layout, in their order.
"""

from recstore.errors import BadField
from recstore.paths import field_at, joined, leads, split_list


def spots(layout, counts, path):
    """The list of the spots to which a path leads; for the name of a list, those of all its elements.

    Raises BadField("no such field") and ("no such element").
    """
    told = split_list(layout, path)
    if told is None:
        found = leads(layout[2], path)
        if path and not found:
            raise BadField("no such field")
        return [(None, None, field) for field in found]
    index, item, rest = told
    found = leads(spot_fields(layout, index), rest)
    if not found:
        raise BadField("no such field")
    if item is not None and item >= counts[index]:
        raise BadField("no such element")
    places = list(range(counts[index])) if item is None else [item]
    return [(index, place, field) for place in places for field in found]


def spot_at(layout, counts, path):
    """The spot of the one field whose path it is; raises BadField as spots does."""
    told = split_list(layout, path)
    index, item, rest = (None, None, path) if told is None else told
    field = field_at(spot_fields(layout, index), rest)
    if field is None or (index is not None and item is None):
        raise BadField("no such field")
    if index is not None and item >= counts[index]:
        raise BadField("no such element")
    return index, item, field


def spot_fields(layout, index):
    """The scalar fields of an element of the list with this index, or, for None, of the record itself."""
    return layout[2] if index is None else layout[3][index][3]


def spot_path(layout, spot):
    """The whole path of a spot."""
    index, item, field = spot
    if index is None:
        return field[0]
    return joined(layout[3][index][0], joined(str(item), field[0]))


def list_index(layout, name):
    """The index of the list with this name; raises BadField("no such list")."""
    names = [entry[0] for entry in layout[3]]
    if name not in names:
        raise BadField("no such list")
    return names.index(name)


def entered_lists(layout, path):
    """The indexes of the lists that a path enters: the empty path enters all."""
    if path == "":
        return list(range(len(layout[3])))
    told = split_list(layout, path)
    return [] if told is None else [told[0]]
