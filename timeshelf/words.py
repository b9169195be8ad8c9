"""Words: a text is read as a document, and its words are cut by endings."""

# In the order in which they stand in strings that are sorted.
SMALL = "0123456789abcdefghijklmnopqrstuvwxyz"
LONGEST = 12


def words_of(text):
    """The list of the runs of letters and digits of the text, small and cut to 12 characters."""
    letters = [letter if letter in SMALL else " " for letter in text.lower()]
    return [run[:LONGEST] for run in "".join(letters).split()]


def cut(word, endings):
    """The word without the longest of the endings that may be taken away from it."""
    taken = 0
    for ending, least in endings:
        if word.endswith(ending) and len(word) - len(ending) >= least:
            taken = max(taken, len(ending))
    return word[:len(word) - taken]


def document_of(text, endings):
    """The document of a text: its words, each of them cut."""
    return tuple([cut(word, endings) for word in words_of(text)])


def is_small(value, most):
    """True if the value is a string of 1 to `most` small letters and digits."""
    if not isinstance(value, str) or not 1 <= len(value) <= most:
        return False
    return all(letter in SMALL for letter in value)
