"""The types (c3) of fields, found by their paths."""

from recstore.layouts import struct_declaration
from recstore.paths import pieces


def kind_at(schema, declared, path):
    """The type to which a path leads among declared fields; for a bit field, that of its word.

    A path into a list has an index, as one into a row.
    """
    first, *others = pieces(path)
    kind = field_kind(declared, first)
    for piece in others:
        kind = _kind_within(schema, kind, piece)
    return kind


def field_kind(declared, name):
    """The type of the declared field with this name."""
    return [field[2] for field in declared if field[0] == name][0]


def _kind_within(schema, kind, piece):
    """The type to which one piece leads within a type."""
    if kind[0] == "struct":
        return field_kind(struct_declaration(schema, kind[1]), piece)
    if kind[0] == "one":
        return ("struct", piece)
    if kind[0] == "row":
        return kind[2]
    if kind[0] == "list":
        return kind[1]
    return kind
