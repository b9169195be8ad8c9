"""What the document says, computed in the plainest way, for the tests to compare with."""

import itertools


def fits_plainly(word, pattern):
    kind, told = pattern
    return word == told if kind == "word" else word[:len(told)] == told


def standings_plainly(document, question):
    """All rows of rising places, tried one by one."""
    _, patterns, gap = question
    found = []
    for places in itertools.combinations(range(len(document)), len(patterns)):
        between = places[-1] - places[0] + 1 - len(patterns)
        if between <= gap and all(fits_plainly(document[at], told) for at, told in zip(places, patterns)):
            found.append(places)
    return sorted(found)


def matches_plainly(document, question):
    if question[0] == "row":
        return standings_plainly(document, question) != []
    if question[0] == "all":
        return True
    if question[0] == "not":
        return not matches_plainly(document, question[1])
    answers = [matches_plainly(document, part) for part in question[1]]
    return False not in answers if question[0] == "and" else True in answers
