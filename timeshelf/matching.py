"""Which documents match a question, and where its rows stand."""

from timeshelf.errors import TooMany

MOST_STANDINGS = 500


def fits(word, pattern):
    """True if the word fits the pattern."""
    kind, told = pattern
    if kind == "start":
        return word.startswith(told)
    return word == told


def matches(document, question):
    """True if the document matches the question."""
    return holds(question, lambda row: has_standing(document, row))


def holds(question, is_met):
    """True if the question matches where its rows are met of which the function says so."""
    kind = question[0]
    if kind == "row":
        return is_met(question)
    if kind == "all":
        return True
    if kind == "not":
        return not holds(question[1], is_met)
    if kind == "and":
        return all(holds(part, is_met) for part in question[1])
    return any(holds(part, is_met) for part in question[1])


def has_standing(document, row):
    """True if the row stands somewhere in the document."""
    return any(begins_standing(document, row, (place,)) for place in range(len(document)))


def standings(document, row):
    """The sorted list of all standings of a row; raises TooMany if there are more than 500."""
    begun = [()]
    for _ in row[1]:
        begun = [longer for places in begun for longer in longer_by_one(document, row, places)]
        # Each of these begins a standing of its own: there are no fewer in the end.
        if len(begun) > MOST_STANDINGS:
            raise TooMany(MOST_STANDINGS)
    return begun


def longer_by_one(document, row, places):
    """The beginnings of standings that have one place more behind these places, in sorted order."""
    start = 0
    end = len(document)
    if len(places) > 0:
        start = places[-1] + 1
        end = end_behind(document, row, places[0])
    longer = [places + (place,) for place in range(start, end)]
    return [more for more in longer if begins_standing(document, row, more)]


def begins_standing(document, row, places):
    """True if these places begin a standing; that all but the last one do is taken for granted."""
    waiting = row[1][len(places) - 1:]
    behind = document[places[-1]:end_behind(document, row, places[0])]
    if not fits(behind[0], waiting[0]):
        return False
    # The first word that fits is as good as any later one: it leaves the most places to the rest.
    taken = 0
    for word in behind:
        if taken < len(waiting) and fits(word, waiting[taken]):
            taken += 1
    return taken == len(waiting)


def end_behind(document, row, first):
    """The index behind the last place that a standing can have, if this is its first one."""
    _, patterns, gap = row
    return min(first + len(patterns) + gap, len(document))
