"""What is wrong with the declarations of a schema that fits the language (k4).

Each function that looks for a fault gives its reason, or the empty text.
"""

from recstore.agreement import first_disagreement
from recstore.errors import BadSchema
from recstore.integers import bounds
from recstore.layouts import layout, struct_layout

MOST_DECLARATIONS = 8
MOST_FIELDS = 24
MOST_BYTES = 64
MOST_LISTS = 2


def check_schema(schema):
    """Raises BadSchema for the first thing that is wrong."""
    for index, item in enumerate(schema):
        reason = _declaration_fault(schema, index)
        if reason:
            raise BadSchema(0, _heading(item) + ": " + reason)


def _heading(item):
    """What a reason begins with."""
    if item[0] == "struct":
        return f"struct {item[1]}"
    return f"record {item[1]} {item[2]}"


def _declaration_fault(schema, index):
    return (
        _place_fault(schema, index)
        or _fields_fault(schema, index)
        or _size_fault(schema, index)
        or _agreement_fault(schema, index)
    )


def _place_fault(schema, index):
    """What is wrong with a declaration at its place behind those ahead."""
    item, ahead = schema[index], schema[:index]
    if index >= MOST_DECLARATIONS:
        return "too many declarations"
    if item[0] == "struct":
        return "duplicate name" if item[1] in _struct_names(ahead) else ""
    expected = _versions(ahead, item[1]) + 1
    return "" if item[2] == expected else f"version {expected} expected"


def _struct_names(schema):
    return [item[1] for item in schema if item[0] == "struct"]


def _versions(schema, name):
    """How many versions of a record type there are."""
    return len([item for item in schema if item[0] == "record" and item[1] == name])


def _fields_fault(schema, index):
    """What is wrong with the first field with which something is."""
    fields = schema[index][-1]
    for place, field in enumerate(fields):
        reason = (
            _name_fault(schema, index, place)
            or _parts_fault(field[2])
            or _names_within_fault(schema, index, field[2])
            or _initial_fault(schema[index], field)
        )
        if reason:
            return field[0] + ": " + reason
    return ""


def _name_fault(schema, index, place):
    """What is wrong with the name of a field, or with its name in the version ahead."""
    item = schema[index]
    name, was, _, _ = item[-1][place]
    if name in [field[0] for field in item[-1][:place]]:
        return "duplicate name"
    if was is not None and was not in _names_ahead(schema[:index], item):
        return "unknown previous name"
    return ""


def _names_ahead(ahead, item):
    """The names of the fields of the version ahead of a declaration; none if there is no such version."""
    if item[0] == "struct":
        return []
    versions = [other[-1] for other in ahead if other[:3] == ("record", item[1], item[2] - 1)]
    return [field[0] for fields in versions for field in fields]


def _parts_fault(kind):
    """What is wrong with the bit fields or the alternatives of a type."""
    if kind[0] == "bits":
        if _repeats([slot[0] for slot in kind[3]]):
            return "duplicate bit field"
        if sum([slot[1] for slot in kind[3]]) > 8 * kind[1]:
            return "bit fields exceed the word"
    if kind[0] == "one" and _repeats(kind[1]):
        return "duplicate alternative"
    return ""


def _repeats(names):
    """Whether a name is there twice."""
    return len(set(names)) < len(names)


def _names_within_fault(schema, index, kind):
    """What is wrong with the place of a list, or with the structs and record types that a type names."""
    if kind[0] == "list" and schema[index][0] == "struct":
        return "list inside a struct"
    declared = _struct_names(schema[:index])
    unknown = [name for name in _structs_named(kind) if name not in declared]
    if unknown:
        return "unknown struct " + unknown[0]
    if kind[0] == "ref" and _versions(schema, kind[1]) == 0:
        return "unknown record type " + kind[1]
    return ""


def _structs_named(kind):
    """The names of the structs that a type names, in order."""
    if kind[0] == "one":
        return list(kind[1])
    # The last item of a row or a list is its item.
    item = kind[-1] if kind[0] in ("row", "list") else kind
    return [item[1]] if item[0] == "struct" else []


def _initial_fault(item, field):
    """What is wrong with the initial value of a field of a declaration."""
    _, _, kind, initial = field
    if initial is None:
        return ""
    if item[0] == "struct" or kind[0] != "word":
        return "invalid initial value"
    least, greatest = bounds(8 * kind[1], kind[2])
    return "" if least <= initial <= greatest else "invalid initial value"


def _size_fault(schema, index):
    item = schema[index]
    placed = struct_layout(schema, item[1]) if item[0] == "struct" else layout(schema, item[1], item[2])
    size, _, fields, lists = placed
    many = len(fields) + sum([len(entry[3]) for entry in lists])
    if many > MOST_FIELDS or size > MOST_BYTES or len(lists) > MOST_LISTS:
        return "declaration is too large"
    return ""


def _agreement_fault(schema, index):
    item = schema[index]
    if item[0] == "struct" or item[2] == 1:
        return ""
    path = first_disagreement(schema, item[1], item[2])
    return path + " is incompatible with the previous version" if path else ""
