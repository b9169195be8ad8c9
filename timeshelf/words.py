"""Words: a text is read as a document, and its words are cut by endings."""

SMALL = "abcdefghijklmnopqrstuvwxyz0123456789"
LONGEST = 12


def words_of(text):
    """The list of the runs of letters and digits of the text, small and cut to 12 characters."""
    letters = [letter if letter in SMALL else " " for letter in text.lower()]
    return [run[:LONGEST] for run in "".join(letters).split()]


def cut(word, endings):
    """The word without the longest of the endings that may be taken away from it."""
    taken = 0
    for ending, least in endings:
        if word.endswith(ending) and len(word) - len(ending) >= least:
            taken = max(taken, len(ending))
    return word[:len(word) - taken]


def document_of(text, endings):
    """The document of a text: its words, each of them cut."""
    return tuple([cut(word, endings) for word in words_of(text)])
