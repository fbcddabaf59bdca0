"""Records of a store, read as the versions as which they are stored or as newer ones (v2, r3)."""

from recstore.blocks import LIST_BLOCK, UNIT, find_block
from recstore.fields import read_field, write_field
from recstore.integers import read_word, write_word
from recstore.kinds import kind_at
from recstore.paths import field_at
from recstore.spots import list_index, spot_at, spot_fields, spot_path, spots
from recstore.stored import find_record
from recstore.versions import chain, element_traces, list_trace, traces


class View:
    """A record read as a version; it is right for as long as no block moves."""

    def __init__(self, schema, data, number, version):
        """For version None, the record is read as it is stored."""
        self.schema = schema
        self.data = data
        self.number = number
        self.name, self.stored, self.body = find_record(schema, data, number)
        self.version = self.stored if version is None else version
        self.steps = chain(schema, self.name, self.version, self.stored)
        self.layout = self.steps[0][1]
        self.older = self.steps[-1][1]
        # For each list, the index of the stored list to which it is traced, or None, and where its elements begin.
        self.lists = [self._stored_list(entry[0]) for entry in self.layout[3]]
        self.starts = [self._list_start(index) for index in self.lists]
        self.sources = {index: self._sources(index) for index in [None] + list(range(len(self.lists)))}

    def counts(self):
        """The numbers of elements of the lists."""
        headers = [None if index is None else self.body + self.older[3][index][1] for index in self.lists]
        return [0 if header is None else read_word(self.data, header, 2) for header in headers]

    def spots(self, path):
        """The spots to which a path leads."""
        return spots(self.layout, self.counts(), path)

    def spot(self, path):
        """The spot of one field."""
        return spot_at(self.layout, self.counts(), path)

    def value(self, spot):
        """The value of the field at a spot."""
        index, item, field = spot
        told, found = self.sources[index][field[0]]
        if told == "initial":
            return found
        value = read_field(self.data, self.start(index, item), found)
        return 0 if field[7] == "reference" and not self.refers(spot, value) else value

    def active(self, spot):
        """Whether the field at a spot is active."""
        index, item, field = spot
        fields = spot_fields(self.layout, index)
        tags = [((index, item, field_at(fields, tag)), number) for tag, number in field[8]]
        return all([self.value(tag) == number for tag, number in tags])

    def refers(self, spot, number):
        """Whether there is a record with this number of the type to which the reference at a spot refers."""
        found = find_record(self.schema, self.data, number)
        return found is not None and found[0] == self.kind(spot)[1]

    def kind(self, spot):
        """The type (c3) of the field at a spot."""
        return kind_at(self.schema, self.steps[0][0], spot_path(self.layout, spot))

    def start(self, index, item):
        """Where in data the record itself, or the element of a list, begins."""
        if index is None:
            return self.body
        return self.starts[index] + item * self.older[3][self.lists[index]][2]

    def own_content(self):
        """The bytes of the record itself, stored as the version, with the counts of its lists."""
        content = [0] * self.layout[0]
        self._write_active(content, self.spots(""))
        for entry, count in zip(self.layout[3], self.counts()):
            write_word(content, entry[1], 2, count)
        return content

    def list_content(self, index):
        """The bytes of the elements of a list, stored as the version."""
        name, _, stride, _ = self.layout[3][index]
        content = [0] * (stride * self.counts()[index])
        self._write_active(content, self.spots(name))
        return content

    def _write_active(self, content, found):
        """Puts the values at the active spots into the content of the record itself or of a list."""
        for spot in found:
            index, item, field = spot
            start = 0 if index is None else item * self.layout[3][index][2]
            if self.active(spot):
                write_field(content, start, field, self.value(spot))

    def _stored_list(self, name):
        """The index of the stored list to which a list is traced, or None."""
        found = list_trace(self.steps, name)
        return None if found is None else list_index(self.older, found)

    def _list_start(self, index):
        """Where in data the elements of a stored list begin, or None if there are none."""
        offset = None if index is None else find_block(self.data, self.number, LIST_BLOCK + index)
        return None if offset is None else offset + UNIT

    def _sources(self, index):
        """For each path of the record itself, or of an element: ("field", stored field) or ("initial", value)."""
        if index is None:
            told = traces(self.steps)
            fields = self.older[2]
        else:
            told = element_traces(self.steps, self.layout[3][index][0])
            fields = () if self.lists[index] is None else self.older[3][self.lists[index]][3]
        return {path: _with_field(fields, told[path]) for path in told}


def _with_field(fields, told):
    """A trace with the stored scalar field in place of its path."""
    return ("field", field_at(fields, told[-1])) if told[0] == "field" else told
