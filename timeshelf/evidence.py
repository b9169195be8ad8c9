"""Evidence: why a document matches a question, or why it does not."""

from timeshelf.matching import fits, longer_by_one, matches
from timeshelf.times import is_number

# What evidence for the question of a "not" shows about the "not".
OPPOSITES = {"yes": "no", "no": "yes"}


def evidence_for(document, question):
    """The evidence with the first standings, in sorted order, and the least indexes."""
    kind = question[0]
    if kind == "row":
        return evidence_for_row(document, question)
    if kind == "all":
        return ("all",)
    if kind == "not":
        return ("not", evidence_for(document, question[1]))
    return evidence_for_parts(document, question)


def evidence_for_row(document, row):
    """The evidence for a row."""
    places = ()
    for _ in row[1]:
        # Not by the list of all standings: there can be too many of them.
        longer = longer_by_one(document, row, places)
        if len(longer) == 0:
            return ("nowhere",)
        places = longer[0]
    return ("stands", places)


def evidence_for_parts(document, question):
    """The evidence for an "and" or an "or"."""
    kind, parts = question
    deciding = kind == "or"
    for index, part in enumerate(parts):
        if matches(document, part) == deciding:
            return ("one", index, evidence_for(document, part))
    return ("each", tuple([evidence_for(document, part) for part in parts]))


def check_evidence(document, question, evidence):
    """The string "yes" or "no" if this is evidence that the document matches, or does not; else None."""
    kind = question[0]
    if kind == "row":
        return check_row(document, question, evidence)
    if kind == "all":
        return "yes" if is_told(evidence, "all", 1) else None
    if kind == "not":
        return check_not(document, question, evidence)
    return check_parts(document, question, evidence)


def is_told(evidence, word, length):
    """True if this is a tuple of this length that begins with the word."""
    return isinstance(evidence, tuple) and len(evidence) == length and evidence[0] == word


def check_row(document, row, evidence):
    """What the evidence shows about a row."""
    if is_told(evidence, "stands", 2) and is_standing(document, row, evidence[1]):
        return "yes"
    if is_told(evidence, "nowhere", 1) and not matches(document, row):
        return "no"
    return None


def is_standing(document, row, places):
    """True if these places, which may be anything, are a standing of the row."""
    _, patterns, gap = row
    if not is_rising(places) or len(places) != len(patterns) or places[-1] >= len(document):
        return False
    if places[-1] - places[0] + 1 - len(places) > gap:
        return False
    return all([fits(document[place], pattern) for place, pattern in zip(places, patterns)])


def is_rising(places):
    """True if this is a strictly rising tuple of one or more integers from 0 on."""
    if not isinstance(places, tuple) or len(places) == 0:
        return False
    if not all(is_number(place) for place in places):
        return False
    return places[0] >= 0 and all([low < high for low, high in zip(places, places[1:])])


def check_not(document, question, evidence):
    """What the evidence shows about a "not"."""
    if not is_told(evidence, "not", 2):
        return None
    return OPPOSITES.get(check_evidence(document, question[1], evidence[1]))


def check_parts(document, question, evidence):
    """What the evidence shows about an "and" or an "or"."""
    kind, parts = question
    by_one = "yes" if kind == "or" else "no"
    if is_told(evidence, "one", 3) and is_index(evidence[1], parts):
        if check_evidence(document, parts[evidence[1]], evidence[2]) == by_one:
            return by_one
    if is_told(evidence, "each", 2) and is_each(document, parts, evidence[1], OPPOSITES[by_one]):
        return OPPOSITES[by_one]
    return None


def is_index(value, parts):
    """True if the value is the index of one of the parts."""
    return is_number(value) and 0 <= value < len(parts)


def is_each(document, parts, evidences, shown):
    """True if these, which may be anything, are a tuple with evidence for each part that shows this."""
    if not isinstance(evidences, tuple) or len(evidences) != len(parts):
        return False
    return all([check_evidence(document, part, told) == shown for part, told in zip(parts, evidences)])
