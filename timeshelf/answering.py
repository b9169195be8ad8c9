"""Answers by places of versions and by postings, without the documents."""

from timeshelf.matching import fits, holds, matches
from timeshelf.times import timelines_of


def needs_all(question):
    """True if the question needs all versions: those, too, in which no word of its patterns stands."""
    return matches((), question)


def places_told(postings):
    """The list of the places of the versions that the postings are of, each once, by key, then by start."""
    places = list({posting[1:4]: True for posting in postings})
    # Ends, which can be None, are not compared: a paper can tell two for one key and start.
    return sorted(places, key=lambda place: place[:2])


def answer_by(question, places, postings):
    """The answer by places of versions and postings of these; versions without a place have no times in it."""
    told = {}
    for word, key, start, end, stands in postings:
        told.setdefault((key, start, end), []).append((word, stands))
    return timelines_of([place for place in places if version_matches(told.get(place, []), question)])


def version_matches(told, question):
    """True if a version matches in which these words stand at their places."""
    return holds(question, lambda row: is_met(told, row))


def is_met(told, row):
    """True if places for the patterns of the row can be chosen in a version."""
    _, patterns, gap = row
    choices = [places_for(told, pattern) for pattern in patterns]
    return any([begins_at(place, choices, gap) for place in choices[0]])


def places_for(told, pattern):
    """The places in a version at which words that fit the pattern stand, as the keys of a dict."""
    return {place: True for word, places in told if fits(word, pattern) for place in places}


def begins_at(first, choices, gap):
    """True if a place from each of the choices can be taken, the first one here."""
    taken = 0
    # The first place that can be taken is as good as any later one: it leaves the most to the rest.
    for place in range(first, first + len(choices) + gap):
        if taken < len(choices) and place in choices[taken]:
            taken += 1
    return taken == len(choices)
