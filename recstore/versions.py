"""Where the fields and lists of a version come from in the versions ahead (v1).

A chain is the list of (declared fields, layout) of the versions of a record
type from a newer one back to an older one.
"""

from recstore.layouts import declaration, layout


def source(schema, name, version, path):
    """Of a scalar field of a version from 2 on: ("field", path) in the version ahead, or ("initial", value)."""
    return trace(schema, name, version, path, version - 1)


def trace(schema, name, version, path, older):
    """As source, but traced back to an older version or the same one."""
    return traces(chain(schema, name, version, older))[path]


def source_list(schema, name, version, list_name):
    """The name of the list of the version ahead from which a list comes, or None."""
    return trace_list(schema, name, version, list_name, version - 1)


def trace_list(schema, name, version, list_name, older):
    """As source_list, but traced back to an older version or the same one."""
    return list_trace(chain(schema, name, version, older), list_name)


def trace_element(schema, name, version, list_name, path, older):
    """Of a field of an element: ("field", name of the list, path) in the older version, or ("initial", 0)."""
    return element_traces(chain(schema, name, version, older), list_name)[path]


def chain(schema, name, version, older):
    """The chain from a version back to an older one or the same one."""
    versions = range(version, older - 1, -1)
    return [(declaration(schema, name, each), layout(schema, name, each)) for each in versions]


def traces(steps):
    """The traces of all scalar fields of a chain's first version to its last one, by their paths."""
    found = {field[0]: ("field", field[0]) for field in steps[0][1][2]}
    for newer, older in zip(steps, steps[1:]):
        known = {field[0]: True for field in older[1][2]}
        found = {path: _traced_once(newer[0], known, told) for path, told in found.items()}
    return found


def list_trace(steps, list_name):
    """The name in a chain's last version of the list to which one of its first version is traced, or None."""
    names = _names_back(steps, list_name)
    return names[-1] if len(names) == len(steps) else None


def element_traces(steps, list_name):
    """The traces of all fields of the elements of a list of a chain's first version, by their paths."""
    names = _names_back(steps, list_name)
    paths = [_item_paths(step[1], name) for step, name in zip(steps, names)]
    found = {}
    for path in paths[0]:
        kept = len(names) == len(steps) and all([path in known for known in paths])
        found[path] = ("field", names[-1], path) if kept else ("initial", 0)
    return found


def _traced_once(declared, known, told):
    """A trace to a version with these declared fields, traced to the version ahead with these known paths."""
    if told[0] == "initial":
        return told
    first, dot, rest = told[1].partition(".")
    path = _previous_name(declared, first) + dot + rest
    return ("field", path) if path in known else ("initial", _initial_value(declared, told[1]))


def _names_back(steps, list_name):
    """The names of a list in the versions of a chain, as far back as it is traced."""
    names = [list_name]
    for newer, older in zip(steps, steps[1:]):
        previous = _previous_name(newer[0], names[-1])
        if previous not in [entry[0] for entry in older[1][3]]:
            return names
        names.append(previous)
    return names


def _item_paths(placed, list_name):
    """The paths of the fields of an element of a list."""
    return [field[0] for entry in placed[3] if entry[0] == list_name for field in entry[3]]


def _previous_name(declared, name):
    """The name that the declared field of this name has in the version ahead."""
    was = [field[1] for field in declared if field[0] == name][0]
    return name if was is None else was


def _initial_value(declared, path):
    """The initial value of a scalar field: the declared one of a word that is a field of its own, otherwise 0."""
    found = [field[3] for field in declared if field[0] == path and field[2][0] == "word"]
    return found[0] if found and found[0] is not None else 0
