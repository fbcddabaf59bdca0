"""Devices, their leases and their works, in a store as in a table (d1 to d3, t2, t3)."""

from recstore.errors import BadArgument, BadField, OutOfRange
from recstore.fields import check_range
from recstore.leasebook import Leases
from recstore.leases import covered_words
from recstore.refusals import check_new_value, number_spot, readable_spot, settable_spot, stored_view

GREATEST_ADDED = 4294967295


class Bench:
    """The devices that work on records (those of recstore.byterecords, or of recstore.plainrecords)."""

    def __init__(self, records):
        self.records = records
        self.leases = Leases()
        # For each device None if it is idle, otherwise (its work, what it gets as (number, spot) or None).
        self.jobs = []

    def device(self):
        """A new device; its number."""
        self.jobs.append(None)
        return len(self.jobs)

    def lease(self, device, number, path, exclusive):
        """A new lease; its number. Raises BadArgument, BadField, Leased."""
        self._check_device(device)
        view = stored_view(self.records, number)
        return self.leases.hold(device, number, covered_words(view, path, exclusive))

    def release(self, lease):
        """Ends a lease; raises BadArgument."""
        self._check_idle(self.leases.told(lease)[0])
        self.leases.end(lease)

    def begin(self, device, kind, number, path, value, other, other_path):
        """Begins a work; raises BadArgument, BadField, OutOfRange."""
        self._check_device(device)
        view = stored_view(self.records, number)
        other_view = stored_view(self.records, other) if kind == "copy" else None
        self._check_idle(device)
        spot = self._leased_spot(device, kind, view, path, kind not in ("get", "copy"))
        source, target = (view, spot), None
        if kind == "set":
            source, target = None, source
        if kind == "copy":
            target = (other_view, self._leased_spot(device, kind, other_view, other_path, True))
        _check_given(kind, view, spot, value)
        work = self.records.new_work(kind, source, target, value)
        self.jobs[device - 1] = (work, (number, spot) if kind == "get" else None)

    def step(self, device):
        """Makes one step: ("idle",), ("going",), or behind the last one ("done", what it tells).

        Raises BadArgument, OutOfRange.
        """
        if not self.busy(device):
            return ("idle",)
        work, got = self.jobs[device - 1]
        try:
            told = self.records.step(work)
        except OutOfRange:
            self.jobs[device - 1] = None
            raise
        if told[0] == "going":
            return told
        self.jobs[device - 1] = None
        return ("done", told[1] if got is None else self._shown(got, told[1]))

    def abort(self, device):
        """Ends the work and all leases of a device; raises BadArgument."""
        if self.busy(device):
            self.records.finish(self.jobs[device - 1][0])
            self.jobs[device - 1] = None
        self.leases.end_all(device)

    def busy(self, device):
        """Whether a device works; raises BadArgument."""
        self._check_device(device)
        return self.jobs[device - 1] is not None

    def _check_device(self, device):
        """Raises BadArgument if there is no device with this number."""
        if device < 1 or device > len(self.jobs):
            raise BadArgument("device")

    def _check_idle(self, device):
        """Raises BadArgument if a device works."""
        if self.busy(device):
            raise BadArgument("busy")

    def _leased_spot(self, device, kind, view, path, written):
        """The spot of a field on which a device can do a kind of work; raises BadField."""
        if kind == "get":
            spot = readable_spot(view, path)
        elif kind == "set":
            spot = settable_spot(view, path)
        else:
            spot = number_spot(view, path)
        if not self.leases.lets(device, view.cells.number, view.word(spot), written):
            raise BadField("not leased")
        return spot

    def _shown(self, got, value):
        """What a device tells that got a field: a reference to nothing as 0."""
        number, spot = got
        return stored_view(self.records, number).shown(spot, value)


def _check_given(kind, view, spot, value):
    """Raises OutOfRange or BadField if a work on the field at a spot cannot be given an integer."""
    if kind == "set":
        check_new_value(view, spot, value)
    if kind == "exchange":
        check_range(spot[2], value)
    if kind == "add" and abs(value) > GREATEST_ADDED:
        raise OutOfRange()
