"""How records that are stored as a version are read as this or a newer one (v2), whatever their values are."""

from recstore.kinds import kind_at
from recstore.paths import field_at
from recstore.spots import list_index, spot_path
from recstore.versions import chain, element_traces, list_trace, traces


class Plan:
    """Where the fields and lists of a version of a record type are found in the version that is stored."""

    def __init__(self, schema, name, version, stored):
        steps = chain(schema, name, version, stored)
        self.schema = schema
        self.name = name
        self.declared, self.layout = steps[0]
        self.stored_declared, self.stored_layout = steps[-1]
        # For each list, the index of the stored list to which it is traced, or None.
        self.lists = [self._stored_list(list_trace(steps, entry[0])) for entry in self.layout[3]]
        self.sources = {index: self._sources(steps, index) for index in [None] + list(range(len(self.lists)))}

    def origin(self, spot):
        """Where the value of the field at a spot comes from: ("field", stored spot) or ("initial", value)."""
        index, item, field = spot
        told, found = self.sources[index][field[0]]
        if told == "initial":
            return told, found
        return told, (None if index is None else self.lists[index], item, found)

    def kind(self, spot):
        """The type (c3) of the field at a spot."""
        return kind_at(self.schema, self.declared, spot_path(self.layout, spot))

    def _stored_list(self, name):
        """The index of the stored list with this name, or None for the name None."""
        return None if name is None else list_index(self.stored_layout, name)

    def _sources(self, steps, index):
        """For each path of the record itself, or of an element: ("field", stored field) or ("initial", value)."""
        if index is None:
            told = traces(steps)
            fields = self.stored_layout[2]
        else:
            told = element_traces(steps, self.layout[3][index][0])
            fields = () if self.lists[index] is None else self.stored_layout[3][self.lists[index]][3]
        return {path: _with_field(fields, told[path]) for path in told}


class Plans:
    """The plans of a schema; each is worked out once."""

    def __init__(self, schema):
        self.schema = schema
        self.known = {}

    def planned(self, told, version):
        """The plan of a record that is told as (name, stored version) for a version; for None, for the stored one."""
        name, stored = told
        key = (name, stored if version is None else version, stored)
        if key not in self.known:
            self.known[key] = Plan(self.schema, key[0], key[1], key[2])
        return self.known[key]


def _with_field(fields, told):
    """A trace with the stored scalar field in place of its path."""
    return ("field", field_at(fields, told[-1])) if told[0] == "field" else told
