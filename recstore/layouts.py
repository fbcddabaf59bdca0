"""Layouts of structs and of versions of record types (y1 to y4).

The scalar fields of a type are first worked out as if it began at offset 0
and had no name; then they are put into the whole, at the offset and under the
name of the declared field, so that all types nest in the same way.
"""

from recstore.paths import joined

LIST_HEADER = 4
LIST_ALIGNMENT = 2


def types(schema):
    """The list of pairs (name, number of versions) of the record types, in order."""
    versions = {}
    for item in schema:
        if item[0] == "record":
            versions[item[1]] = versions.get(item[1], 0) + 1
    return list(versions.items())


def declaration(schema, name, version):
    """The declared fields of a version of a record type."""
    return _declared(schema, ("record", name, version))


def struct_declaration(schema, name):
    """The declared fields of a struct."""
    return _declared(schema, ("struct", name))


def layout(schema, name, version):
    """The layout of a version of a record type."""
    return _placed(schema, declaration(schema, name, version))


def struct_layout(schema, name):
    """The layout of a struct."""
    return _placed(schema, struct_declaration(schema, name))


def size_of(schema, kind):
    """How many bytes a field of a type takes."""
    return _parts(schema, kind)[0]


def together(one, other):
    """Whether two scalar fields can be active together."""
    pairs = [(mine, its) for mine in one[8] for its in other[8]]
    return all([mine[0] != its[0] or mine[1] == its[1] for mine, its in pairs])


def padding(layout):
    """The ascending list of the offsets that belong to no word and to no list header."""
    size, _, fields, lists = layout
    words = [(field[1], field[2]) for field in fields]
    headers = [(header[1], LIST_HEADER) for header in lists]
    used = {offset + place: True for offset, many in words + headers for place in range(many)}
    return [offset for offset in range(size) if offset not in used]


def _declared(schema, heading):
    """The fields of the declaration that begins with these items."""
    return [item[-1] for item in schema if item[:-1] == heading][0]


def _placed(schema, declared):
    """The layout of declared fields that are placed in order."""
    end = 0
    alignment = 1
    fields = []
    lists = []
    for name, _, kind, _ in declared:
        size, own_alignment, inner = _parts(schema, kind)
        offset = _rounded_up(end, own_alignment)
        fields.extend(_put_into(inner, name, offset))
        if kind[0] == "list":
            stride, _, element = _parts(schema, kind[1])
            lists.append((name, offset, stride, element))
        end = offset + size
        alignment = max(alignment, own_alignment)
    return _rounded_up(end, alignment), alignment, tuple(fields), tuple(lists)


def _parts(schema, kind):
    """The size, the alignment and the scalar fields of a type (c3)."""
    if kind[0] == "word":
        return _word_parts(kind)
    if kind[0] == "bits":
        return _bits_parts(kind)
    if kind[0] == "struct":
        return struct_layout(schema, kind[1])[:3]
    if kind[0] == "row":
        return _row_parts(schema, kind)
    if kind[0] == "one":
        return _union_parts(schema, kind)
    if kind[0] == "ref":
        return 4, 4, (_whole_word(4, False, False, "reference"),)
    return LIST_HEADER, LIST_ALIGNMENT, ()


def _whole_word(size, signed, big, role):
    """The scalar field that is a whole word."""
    return ("", 0, size, big, 0, 8 * size, signed, role, ())


def _word_parts(kind):
    _, size, signed, big = kind
    return size, size, (_whole_word(size, signed, big, "number"),)


def _bits_parts(kind):
    _, size, big, slots = kind
    fields = []
    first = 0
    for name, width in slots:
        fields.append((name, 0, size, big, first, width, False, "number", ()))
        first += width
    return size, size, tuple(fields)


def _row_parts(schema, kind):
    _, count, item = kind
    size, alignment, inner = _parts(schema, item)
    fields = []
    for index in range(count):
        fields.extend(_put_into(inner, str(index), index * size))
    return count * size, alignment, tuple(fields)


def _union_parts(schema, kind):
    names = kind[1]
    inners = [struct_layout(schema, name) for name in names]
    alignment = max([part[1] for part in inners])
    size = alignment + max([part[0] for part in inners])
    fields = [_whole_word(1, False, False, "tag")]
    for index, inner in enumerate(inners):
        selected = ("", index + 1)
        for field in _put_into(inner[2], names[index], alignment):
            fields.append(field[:8] + ((selected,) + field[8],))
    return _rounded_up(size, alignment), alignment, tuple(fields)


def _put_into(fields, name, offset):
    """The scalar fields of a part as they are in the whole, where the part has this name and offset."""
    moved = []
    for field in fields:
        conditions = tuple([(joined(name, tag), number) for tag, number in field[8]])
        place = (joined(name, field[0]), offset + field[1])
        moved.append(place + field[2:8] + (conditions,))
    return moved


def _rounded_up(number, step):
    """The least multiple of step that is not less than the number."""
    return (number + step - 1) // step * step
