"""What the document says, computed in the plainest way, for the tests to compare with."""

import itertools

from timeshelf.words import document_of


def fits_plainly(word, pattern):
    kind, told = pattern
    return word == told if kind == "word" else word[:len(told)] == told


def standings_plainly(document, question):
    """All rows of rising places, tried one by one."""
    _, patterns, gap = question
    found = []
    for places in itertools.combinations(range(len(document)), len(patterns)):
        between = places[-1] - places[0] + 1 - len(patterns)
        if between <= gap and all(fits_plainly(document[at], told) for at, told in zip(places, patterns)):
            found.append(places)
    return sorted(found)


def matches_plainly(document, question):
    if question[0] == "row":
        return standings_plainly(document, question) != []
    if question[0] == "all":
        return True
    if question[0] == "not":
        return not matches_plainly(document, question[1])
    answers = [matches_plainly(document, part) for part in question[1]]
    return False not in answers if question[0] == "and" else True in answers


def document_plainly(changes, endings, key, time):
    """[s1], [s2]: the document of a key at a time, by the last change until then."""
    last = None
    for change in changes:
        if change[1] == key and change[0] <= time and (last is None or change[0] >= last[0]):
            last = change
    if last is None or last[2] is None:
        return None
    return document_of(last[2], endings)


def times_plainly(changes, key):
    return sorted({change[0] for change in changes if change[1] == key})


def keys_plainly(changes):
    return sorted({change[1] for change in changes})


def history_plainly(changes, endings, key):
    """[s2]: the versions, each as long as the document stays the same."""
    versions = []
    document = None
    for time in times_plainly(changes, key):
        now = document_plainly(changes, endings, key, time)
        if now != document:
            if document is not None:
                versions[-1] = (versions[-1][0], time, document)
            if now is not None:
                versions.append((time, None, now))
        document = now
    return tuple(versions)


def answer_plainly(changes, endings, question):
    """[s3]: for each key, the times at which it begins or ends that its document matches."""
    answer = {}
    for key in keys_plainly(changes):
        points = []
        for time in times_plainly(changes, key):
            document = document_plainly(changes, endings, key, time)
            inside = document is not None and matches_plainly(document, question)
            if inside != (len(points) % 2 == 1):
                points.append(time)
        if points:
            answer[key] = tuple(points)
    return answer


def places_plainly(changes, endings):
    """[i1]: the places of all versions."""
    return [(key, start, end) for key in keys_plainly(changes)
            for start, end, _ in history_plainly(changes, endings, key)]


def postings_plainly(changes, endings):
    """[i1]: all postings, by word, key and start."""
    found = {}
    for key in keys_plainly(changes):
        for start, end, document in history_plainly(changes, endings, key):
            for word in document:
                places = tuple(at for at in range(len(document)) if document[at] == word)
                found[(word, key, start)] = (word, key, start, end, places)
    return [found[place] for place in sorted(found)]
