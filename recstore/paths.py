"""Paths: pieces with dots between them, which lead to scalar fields (c5, p1, p2)."""

from recstore.errors import BadField

DIGITS = "0123456789"


def leads(fields, path):
    """The list of the scalar fields to which a path leads."""
    # No path of a field has an empty piece, so that a path with one leads to nothing.
    wanted = pieces(path)
    return [field for field in fields if pieces(field[0])[:len(wanted)] == wanted]


def field_at(fields, path):
    """The scalar field whose path it is, or None."""
    for field in fields:
        if field[0] == path:
            return field
    return None


def split_list(layout, path):
    """A path into a list: (index of the list, index of the element or None, rest); None for any other path.

    Raises BadField for a path that cannot lead to anything in the list.
    """
    first, *others = path.split(".")
    names = [entry[0] for entry in layout[3]]
    if first not in names:
        return None
    if "" in others or (others and not is_index(others[0])):
        raise BadField("no such field")
    item = int(others[0]) if others else None
    return names.index(first), item, ".".join(others[1:])


def is_index(piece):
    """Whether a piece that is not empty is an index, written as c5 says."""
    return all([sign in DIGITS for sign in piece]) and (piece == "0" or piece[0] != "0")


def pieces(path):
    """The list of the pieces of a path."""
    return path.split(".") if path else []


def joined(first, rest):
    """The path of what has the path rest within the part of the path first."""
    return first + "." + rest if rest else first
