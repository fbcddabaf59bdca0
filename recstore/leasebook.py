"""The leases that are held, and what they stand against (e2, e3)."""

from recstore.errors import BadArgument, Leased
from recstore.leases import conflicts


class Leases:
    """The leases that are held: for the number of each (device, number of the record, words)."""

    def __init__(self):
        self.last = 0
        self.current = {}

    def hold(self, device, number, words):
        """Holds a new lease; its number. Raises Leased."""
        if conflicts(number, words, [told[1:] for told in self.current.values()]):
            raise Leased()
        self.last += 1
        self.current[self.last] = (device, number, words)
        return self.last

    def told(self, lease):
        """(device, number of the record, words) of a lease; raises BadArgument if it is not held."""
        if lease not in self.current:
            raise BadArgument("lease")
        return self.current[lease]

    def numbers(self):
        """The ascending list of the numbers of the leases."""
        return sorted(self.current)

    def end(self, lease):
        """Ends a lease."""
        del self.current[lease]

    def end_all(self, device):
        """Ends all leases of a device."""
        self.current = {lease: told for lease, told in self.current.items() if told[0] != device}

    def lets(self, device, number, word, written):
        """Whether a device may read a word of a record, or write it."""
        return any([owner == device and (wish or not written) for owner, wish in self._holders(number, word)])

    def check_readable(self, number, word):
        """Raises Leased if a word of a record is leased exclusively."""
        if any([wish for _, wish in self._holders(number, word)]):
            raise Leased()

    def check_writable(self, number, word):
        """Raises Leased if a word of a record is leased."""
        if self._holders(number, word):
            raise Leased()

    def check_free(self, number):
        """Raises Leased if there is a lease of a record."""
        if number in [told[1] for told in self.current.values()]:
            raise Leased()

    def check_none(self):
        """Raises Leased if there is a lease."""
        if self.current:
            raise Leased()

    def check_shared(self):
        """Raises Leased if any word is leased exclusively."""
        if any([word[-1] for told in self.current.values() for word in told[2]]):
            raise Leased()

    def _holders(self, number, word):
        """For each lease with a word of a record: (device, whether exclusively)."""
        found = []
        for device, owner, words in self.current.values():
            if owner == number:
                found.extend([(device, taken[-1]) for taken in words if taken[:-1] == word])
        return found
