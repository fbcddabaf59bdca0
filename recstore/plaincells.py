"""The values of records that are not stored in bytes."""

from recstore.kinds import kind_at
from recstore.spots import spot_fields, spot_path


class PlainRecord:
    """A record: its type and version, its values by their paths, and for each list the values of its elements."""

    def __init__(self, name, version, own, lists):
        self.name = name
        self.version = version
        self.own = own
        self.lists = lists

    def copied(self):
        """A record that is the same until one of the two changes."""
        lists = [[dict(item) for item in items] for items in self.lists]
        return PlainRecord(self.name, self.version, dict(self.own), lists)


class PlainCells:
    """The cells (recstore.views) of one of the plain records, a dict by their numbers."""

    def __init__(self, records, number, plan):
        self.records = records
        self.number = number
        self.record = records[number]
        self.plan = plan
        self.layout = plan.stored_layout

    def length_of(self, index):
        """How many elements a list has."""
        return len(self.record.lists[index])

    def read(self, spot):
        """The stored integer at a spot."""
        return self._held(spot)[spot[2][0]]

    def write(self, spot, value):
        """Stores an integer at a spot."""
        self._held(spot)[spot[2][0]] = value

    def select(self, spot, kind, number):
        """Selects the alternative with this number of the union at a spot."""
        held = self._held(spot)
        for field in spot_fields(self.layout, spot[0]):
            if spot[2][0] in [tag for tag, _ in field[8]]:
                held[field[0]] = 0
        held[spot[2][0]] = number

    def word(self, spot):
        """The word of a spot: (name of the list or "", index of the element or None, path of the word in it)."""
        index, item, field = spot
        name = "" if index is None else self.layout[3][index][0]
        return name, item, field[0].rpartition(".")[0] if self._is_bit_field(spot) else field[0]

    def header(self, index):
        """The word that is the header of a list, likewise: no field of the record has its name."""
        return "", None, self.layout[3][index][0]

    def name_of(self, number):
        """The type of the record with this number, or None if there is none."""
        return self.records[number].name if number in self.records else None

    def _held(self, spot):
        """The values among which that of a spot is, by their paths."""
        return self.record.own if spot[0] is None else self.record.lists[spot[0]][spot[1]]

    def _is_bit_field(self, spot):
        """Whether the field at a spot shares its word with others."""
        return kind_at(self.plan.schema, self.plan.stored_declared, spot_path(self.layout, spot))[0] == "bits"
