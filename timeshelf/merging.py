"""Copies of a shelf: what they were told, and how they are merged and compacted."""

from timeshelf.errors import OtherShelf, TooMany
from timeshelf.shelves import MOST_CHANGES, MOST_KEYS, Shelf

LAST_SOURCE = 9


class Copy:
    """One of several copies of a shelf: tellings (stamp, source, change), its own and those of others."""

    def __init__(self, source, endings):
        if not is_source(source):
            raise TooMany(LAST_SOURCE)
        self._source = source
        self._endings = endings
        self._held = []

    def source(self):
        """The number that no other copy has."""
        return self._source

    def endings(self):
        """The endings by which words are cut."""
        return self._endings

    def tellings(self):
        """The list of the tellings, by stamp, then by source."""
        # No two have the same of both: changes, in which None can be, are not compared.
        return sorted(self._held)

    def held(self):
        """The list of the tellings, in the order in which the copy came to hold them."""
        return list(self._held)

    def tell(self, time, key, text):
        """Tells a change: from this time on, the key has this text; returns the telling that is made."""
        # A shelf of its own, which is thrown away, refuses what must be refused.
        self.shelf().tell(time, key, text)
        stamp = 1 + max([telling[0] for telling in self._held], default=0)
        telling = (stamp, self._source, (time, key, text))
        self._held.append(telling)
        return telling

    def merge(self, other):
        """Takes the tellings of another copy in, and returns how many are new."""
        if other.endings() != self._endings:
            raise OtherShelf()
        new = [telling for telling in other.tellings() if telling not in self._held]
        self.take_in(new)
        return len(new)

    def take_in(self, tellings):
        """Takes a list of tellings in, in this order, none of which the copy holds."""
        held = self._held + tellings
        if len({telling[:2] for telling in held}) < len(held):
            raise OtherShelf()
        if len(held) > MOST_CHANGES:
            raise TooMany(MOST_CHANGES)
        if len({telling[2][1] for telling in held}) > MOST_KEYS:
            raise TooMany(MOST_KEYS)
        self._held = held

    def shelf(self):
        """A shelf with the changes of the tellings, in their order."""
        shelf = Shelf(self._endings)
        for _, _, (time, key, text) in self.tellings():
            shelf.tell(time, key, text)
        return shelf


def is_source(number):
    """True if the number can be the source of a copy."""
    return 1 <= number <= LAST_SOURCE


def compacted(tellings):
    """The list of those tellings that count, in order."""
    last = {}
    for telling in sorted(tellings):
        time, key, _ = telling[2]
        last[(key, time)] = telling
    return sorted(last.values())
