"""Places of versions, and postings: in which versions the words stand, and where in them."""


def places_of(history, key):
    """The list of the places (key, start, end) of the versions of a key's history."""
    return [(key, start, end) for start, end, _ in history]


def postings_of(history, key):
    """The sorted list of the postings (word, key, start, end, places) of a key's history."""
    found = []
    for start, end, document in history:
        for word, places in places_by_word(document).items():
            found.append((word, key, start, end, tuple(places)))
    # No two have one word and one start: ends, which can be None, are not compared.
    return sorted(found)


def places_by_word(document):
    """A dict from each word of the document to the rising list of its places."""
    found = {}
    for place, word in enumerate(document):
        found.setdefault(word, []).append(place)
    return found
