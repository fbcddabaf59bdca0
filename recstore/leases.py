"""Which words a lease covers, and which leased words conflict (e1, e2).

The last item of a leased word tells whether it is leased exclusively; two are
the same word if all other items are equal.
"""

from recstore.cells import open_view
from recstore.spots import entered_lists


def covered(schema, data, number, path, exclusive):
    """The tuple of the words of a record that a path covers: (name of the list or "", offset, size, exclusive).

    Raises BadField.
    """
    return covered_words(open_view(schema, data, number, None), path, exclusive)


def conflicts(number, words, held):
    """Whether words of a record conflict with held ones, a list of pairs (number, words)."""
    others = [word for owner, taken in held if owner == number for word in taken]
    return any([_clash(word, other) for word in words for other in others])


def covered_words(view, path, exclusive):
    """The words that a path covers in the view of a record as it is stored, as its cells name them."""
    active = view.active_spots(path)
    wishes = {view.cells.header(index): False for index in entered_lists(view.layout, path)}
    for spot in active:
        for tag, _ in view.tags(spot):
            wishes.setdefault(view.word(tag), False)
        wishes.setdefault(view.word(spot), exclusive and spot[2][7] != "tag")
    return tuple([word + (wish,) for word, wish in wishes.items()])


def _clash(word, other):
    """Whether two leased words of one record conflict."""
    return word[:-1] == other[:-1] and (word[-1] or other[-1])
