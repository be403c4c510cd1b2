"""A memory of terms, with the transfers in flight that read or set its words.

A row is a tuple (first, step, count): the words at first, first + step and so on.
"""

from tensorcompiler.errors import NeverSet, Outside, Racing


class AuditedMemory:
    """The ids of the terms in the words of a memory, None where a word is not set."""

    def __init__(self, words):
        self._ids = list(words)
        # By how many transfers in flight each word is read, and by how many it is set.
        self._sources = [0] * len(self._ids)
        self._targets = [0] * len(self._ids)

    def all_ids(self):
        """Return the tuple of what all words hold."""
        return tuple(self._ids)

    def ids_of(self, row):
        """Return what the words of a row hold."""
        return [self._ids[address] for address in _addresses(row)]

    def hold(self, row, ids):
        """Set the words of a row."""
        for address, one in zip(_addresses(row), ids):
            self._ids[address] = one

    def check_inside(self, row):
        """Raise Outside if a word of the row is outside of the memory."""
        first, step, count = row
        last = first + step * (count - 1)
        # The other words lie between these two.
        if min(first, last) < 0 or max(first, last) >= len(self._ids):
            raise Outside("an instruction touches a word outside of its memory")

    def check_read(self, row):
        """Raise Racing if a word of the row cannot be read for a transfer in flight."""
        if any([self._targets[address] > 0 for address in _addresses(row)]):
            raise Racing("an instruction reads a word that a transfer in flight sets")

    def check_set(self, row):
        """Raise Racing if a word of the row cannot be set for a transfer in flight."""
        self.check_read(row)
        if any([self._sources[address] > 0 for address in _addresses(row)]):
            raise Racing("an instruction sets a word that a transfer in flight reads")

    def check_known(self, row):
        """Raise NeverSet if a word of the row is not set."""
        if None in self.ids_of(row):
            raise NeverSet("an instruction reads a word that is not set")

    def count_source(self, row, more):
        """Count that more transfers in flight, or fewer, read the words of the row."""
        for address in _addresses(row):
            self._sources[address] = self._sources[address] + more

    def count_target(self, row, more):
        """Count that more transfers in flight, or fewer, set the words of the row."""
        for address in _addresses(row):
            self._targets[address] = self._targets[address] + more


def _addresses(row):
    first, step, count = row
    return [first + step * k for k in range(count)]
