"""Whether the fields of a version agree with those of the version ahead (k4)."""

from recstore.integers import bounds
from recstore.kinds import kind_at
from recstore.layouts import declaration, layout
from recstore.paths import field_at, joined
from recstore.versions import chain, source_list, traces


def first_disagreement(schema, name, version):
    """The path of the first field that does not agree with its source field, or the empty text."""
    return _own_disagreement(schema, name, version) or _list_disagreement(schema, name, version)


def _own_disagreement(schema, name, version):
    """That of the fields of the record itself."""
    older = layout(schema, name, version - 1)[2]
    found = traces(chain(schema, name, version, version - 1))
    for field in layout(schema, name, version)[2]:
        told, path = found[field[0]]
        if told == "field":
            # A tag without a source field is traced to an integer, which is the path of no tag.
            conditions = tuple([(found[tag][1], number) for tag, number in field[8]])
            kinds = _kind_pair(schema, name, version, field[0], path)
            if not _agree(field[:8] + (conditions,), field_at(older, path), kinds):
                return field[0]
    return ""


def _list_disagreement(schema, name, version):
    """That of the fields of the elements, list by list."""
    older = layout(schema, name, version - 1)[3]
    for list_name, _, _, fields in layout(schema, name, version)[3]:
        previous = source_list(schema, name, version, list_name)
        ahead = [entry[3] for entry in older if entry[0] == previous]
        for field in fields:
            other = field_at(ahead[0], field[0]) if ahead else None
            item = joined("0", field[0])
            if other is not None:
                kinds = _kind_pair(schema, name, version, joined(list_name, item), joined(previous, item))
                if not _agree(field, other, kinds):
                    return joined(list_name, field[0])
    return ""


def _kind_pair(schema, name, version, path, previous):
    """The types of a field of a version and of its source field."""
    return (
        kind_at(schema, declaration(schema, name, version), path),
        kind_at(schema, declaration(schema, name, version - 1), previous),
    )


def _agree(newer, older, kinds):
    """Whether two scalar fields agree; the tag paths of the newer one are traced back already."""
    if newer[7] != older[7] or newer[8] != older[8]:
        return False
    if newer[7] == "tag":
        names, ahead = kinds[0][1], kinds[1][1]
        return names[:len(ahead)] == ahead
    if newer[7] == "reference":
        return kinds[0] == kinds[1]
    least, greatest = bounds(newer[5], newer[6])
    older_least, older_greatest = bounds(older[5], older[6])
    return least <= older_least and older_greatest <= greatest
