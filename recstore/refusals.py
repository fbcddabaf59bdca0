"""What is refused of a call as its record stands, ahead of any change and apart from leases (t3).

The functions take views of records as they are stored, but readable_spot,
which takes any.
"""

from recstore.errors import BadArgument, BadField
from recstore.fields import check_range
from recstore.paths import field_at

MOST_ITEMS = 60


def stored_view(records, number):
    """The view of one of the records as it is stored; raises BadArgument if there is none with this number."""
    if records.told(number) is None:
        raise BadArgument("record")
    return records.view(number, None)


def readable_spot(view, path):
    """The spot of a field that can be read; raises BadField."""
    return _active(view, view.spot(path))


def settable_spot(view, path):
    """The spot of a field that can be set; raises BadField."""
    spot = view.spot(path)
    if spot[2][7] == "tag":
        raise BadField("tag")
    return _active(view, spot)


def number_spot(view, path):
    """The spot of a field that is a number; raises BadField."""
    spot = view.spot(path)
    if spot[2][7] != "number":
        raise BadField("not a number")
    return _active(view, spot)


def union_spot(view, path):
    """The spot of a tag, of which an alternative can be selected; raises BadField."""
    spot = view.spot(path)
    if spot[2][7] != "tag":
        raise BadField("not a union")
    return _active(view, spot)


def check_new_value(view, spot, value):
    """Raises OutOfRange or BadField if the field at a spot cannot be set to an integer."""
    check_range(spot[2], value)
    if spot[2][7] == "reference" and value != 0 and not view.refers(spot, value):
        raise BadField("no such record")


def alternative_number(view, spot, name):
    """The number of the alternative of the union at a spot that has this name, 0 for None; raises BadField."""
    if name is None:
        return 0
    names = view.plan.kind(spot)[1]
    if name not in names:
        raise BadField("no such alternative")
    return names.index(name) + 1


def check_push(view, index, value):
    """Raises BadField or OutOfRange if a value, or None, cannot be pushed to a list."""
    if view.counts()[index] >= MOST_ITEMS:
        raise BadField("long")
    if value is not None:
        # Only an element that is a word has a field with the empty path.
        field = field_at(view.layout[3][index][3], "")
        if field is None:
            raise BadField("no value")
        check_range(field, value)


def check_pop(view, index):
    """Raises BadField if a list has no element that can be popped."""
    if view.counts()[index] == 0:
        raise BadField("empty")


def _active(view, spot):
    """The spot, if its field is active."""
    if not view.active(spot):
        raise BadField("not active")
    return spot
