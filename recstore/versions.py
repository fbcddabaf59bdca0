"""Where the fields and lists of a version come from in the versions ahead (v1)."""

from recstore.layouts import declaration, layout
from recstore.paths import field_at


def source(schema, name, version, path):
    """Of a scalar field of a version from 2 on: ("field", path) in the version ahead, or ("initial", value)."""
    return sources(schema, name, version)[path]


def sources(schema, name, version):
    """The sources of all scalar fields of a version from 2 on, by their paths."""
    older = {field[0]: True for field in layout(schema, name, version - 1)[2]}
    declared = declaration(schema, name, version)
    found = {}
    for field in layout(schema, name, version)[2]:
        first, dot, rest = field[0].partition(".")
        path = _previous_name(declared, first) + dot + rest
        found[field[0]] = ("field", path) if path in older else ("initial", _initial_value(declared, field[0]))
    return found


def trace(schema, name, version, path, older):
    """As source, but traced back to an older version or the same one."""
    return traces(schema, name, version, older)[path]


def traces(schema, name, version, older):
    """The traces of all scalar fields of a version back to an older one, by their paths."""
    paths = [field[0] for field in layout(schema, name, version)[2]]
    found = {path: ("field", path) for path in paths}
    for newer in range(version, older, -1):
        ahead = sources(schema, name, newer)
        found = {path: ahead[found[path][1]] if found[path][0] == "field" else found[path] for path in paths}
    return found


def source_list(schema, name, version, list_name):
    """The name of the list of the version ahead from which a list comes, or None."""
    previous = _previous_name(declaration(schema, name, version), list_name)
    names = [entry[0] for entry in layout(schema, name, version - 1)[3]]
    return previous if previous in names else None


def trace_list(schema, name, version, list_name, older):
    """As source_list, but traced back to an older version or the same one."""
    found = list_name
    for newer in range(version, older, -1):
        found = source_list(schema, name, newer, found)
        if found is None:
            return None
    return found


def trace_element(schema, name, version, list_name, path, older):
    """Of a field of an element: ("field", name of the list, path) in the older version, or ("initial", 0)."""
    return element_traces(schema, name, version, list_name, older)[path]


def element_traces(schema, name, version, list_name, older):
    """The traces of all fields of the elements of a list, by their paths."""
    paths = [field[0] for field in list_fields(schema, name, version, list_name)]
    kept = paths
    found = list_name
    for newer in range(version, older, -1):
        found = source_list(schema, name, newer, found)
        if found is None:
            return {path: ("initial", 0) for path in paths}
        fields = list_fields(schema, name, newer - 1, found)
        kept = [path for path in kept if field_at(fields, path) is not None]
    return {path: ("field", found, path) if path in kept else ("initial", 0) for path in paths}


def list_fields(schema, name, version, list_name):
    """The scalar fields of an element of a list."""
    return [entry[3] for entry in layout(schema, name, version)[3] if entry[0] == list_name][0]


def _previous_name(declared, name):
    """The name that the declared field of this name has in the version ahead."""
    was = [field[1] for field in declared if field[0] == name][0]
    return name if was is None else was


def _initial_value(declared, path):
    """The initial value of a scalar field: the declared one of a word that is a field of its own, otherwise 0."""
    found = [field[3] for field in declared if field[0] == path and field[2][0] == "word"]
    return found[0] if found and found[0] is not None else 0
