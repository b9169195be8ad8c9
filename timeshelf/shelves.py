"""Shelves: what was told of the keys, and the documents that they have by that."""

from timeshelf.changes import check_change, counted
from timeshelf.errors import NoSuchKey, TooMany
from timeshelf.matching import matches
from timeshelf.times import is_in, of_span, timelines_of
from timeshelf.words import document_of

MOST_CHANGES = 80
MOST_KEYS = 12


class Shelf:
    """The changes of some keys, in the order in which they were told."""

    def __init__(self, endings):
        self._endings = endings
        self._changes = []

    def tell(self, time, key, text):
        """Tells a change: from this time on, the key has this text; None takes its document away."""
        check_change((time, key, text))
        if len(self._changes) >= MOST_CHANGES:
            raise TooMany(MOST_CHANGES)
        keys = self.known_keys()
        if key not in keys and len(keys) >= MOST_KEYS:
            raise TooMany(MOST_KEYS)
        self._changes.append((time, key, text))

    def endings(self):
        """The endings by which words are cut."""
        return self._endings

    def changes(self):
        """The list of the changes, in the order of telling."""
        return list(self._changes)

    def known_keys(self):
        """The sorted list of the keys of the changes."""
        return sorted({change[1] for change in self._changes})

    def history(self, key):
        """The tuple of the versions (start, end, document) of the key, in rising order."""
        told = [change for change in counted(self._changes) if change[1] == key]
        if len(told) == 0:
            raise NoSuchKey(key)
        ends = [change[0] for change in told[1:]] + [None]
        versions = []
        for (start, _, text), end in zip(told, ends):
            if text is not None:
                versions.append((start, end, document_of(text, self._endings)))
        return joined(versions)

    def document(self, key, time):
        """The document that the key has at this time, None if it has none."""
        for start, end, document in self.history(key):
            if is_in(of_span(start, end), time):
                return document
        return None

    def plain_answer(self, question):
        """The timelines of the keys in which their documents match the question."""
        found = []
        for key in self.known_keys():
            for start, end, document in self.history(key):
                if matches(document, question):
                    found.append((key, start, end))
        return timelines_of(found)


def joined(versions):
    """The tuple of the versions, of neighbours with the same document one."""
    found = []
    for start, end, document in versions:
        if len(found) > 0 and found[-1][1:] == (start, document):
            start = found.pop()[0]
        found.append((start, end, document))
    return tuple(found)
