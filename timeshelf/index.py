"""The index of a shelf, kept through its changes, and the answers by it."""

from timeshelf.answering import answer_by, needs_all, places_told
from timeshelf.matching import fits
from timeshelf.postings import places_of, postings_of
from timeshelf.questions import patterns_of
from timeshelf.shelves import Shelf


class Index:
    """The changes of a shelf, the places of its versions, and its postings."""

    def __init__(self, endings):
        self._shelf = Shelf(endings)
        # For each key its places, for each word its postings: no list of postings is empty.
        self._places = {}
        self._postings = {}
        self._work = (0, 0)

    def tell(self, time, key, text):
        """Tells a change, and brings the index up to it."""
        before = self.history_so_far(key)
        self._shelf.tell(time, key, text)
        after = self.history_so_far(key)
        # The postings of a version that is still there need not be looked at.
        old = postings_of(left_out(before, after), key)
        now = postings_of(left_out(after, before), key)
        gone = left_out(old, now)
        new = left_out(now, old)
        self._places[key] = places_of(after, key)
        for posting in gone:
            self.take_out(posting)
        for posting in new:
            self.put_in(posting)
        self._work = (len(gone), len(new))

    def history_so_far(self, key):
        """The history of the key; an empty one if no change has it."""
        if key in self._shelf.known_keys():
            return self._shelf.history(key)
        return ()

    def take_out(self, posting):
        """Takes a posting out of those of its word."""
        word = posting[0]
        self._postings[word].remove(posting)
        if len(self._postings[word]) == 0:
            del self._postings[word]

    def put_in(self, posting):
        """Puts a posting in its place among those of its word."""
        word = posting[0]
        self._postings[word] = sorted(self.postings(word) + [posting])

    def work(self):
        """How many postings the last change took away, and how many are new by it."""
        return self._work

    def shelf(self):
        """A shelf with the same endings and changes."""
        shelf = Shelf(self._shelf.endings())
        told = self._shelf.changes()
        for time, key, text in told:
            shelf.tell(time, key, text)
        return shelf

    def versions(self):
        """The list of the places of all versions, by key, then by start."""
        return [place for key in sorted(self._places) for place in self._places[key]]

    def words(self):
        """The sorted list of the words of the postings."""
        return sorted(self._postings)

    def postings(self, word):
        """The list of the postings of a word, by key, then by start."""
        return list(self._postings.get(word, []))

    def words_for(self, pattern):
        """The sorted list of the words of the postings that fit the pattern."""
        return [word for word in self.words() if fits(word, pattern)]

    def postings_for(self, question):
        """The list of the postings of the words of the question's patterns, each once."""
        words = sorted({word for pattern in patterns_of(question) for word in self.words_for(pattern)})
        return [posting for word in words for posting in self._postings[word]]

    def answer(self, question):
        """The timelines of the keys in which their documents match the question."""
        postings = self.postings_for(question)
        places = self.versions() if needs_all(question) else places_told(postings)
        return answer_by(question, places, postings)

    def read(self, question):
        """How many postings and versions the answer to the question is told by."""
        versions = len(self.versions()) if needs_all(question) else 0
        return len(self.postings_for(question)) + versions


def left_out(rows, others):
    """The list of those rows that are not among the others."""
    there = set(others)
    return [row for row in rows if row not in there]
