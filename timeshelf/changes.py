"""Changes: what may be told, and which of many changes count."""

from timeshelf.errors import InvalidChange
from timeshelf.times import is_number
from timeshelf.words import is_small

LAST_TIME = 100000
LONGEST_KEY = 8
LONGEST_TEXT = 400
NEWLINE = 10
PERCENT = 37


def check_change(change):
    """None; raises InvalidChange with the name of the first part that is not as it must be."""
    time, key, text = change
    if not is_number(time) or not 0 <= time <= LAST_TIME:
        raise InvalidChange("time")
    if not is_small(key, LONGEST_KEY):
        raise InvalidChange("key")
    if text is not None and not is_text(text):
        raise InvalidChange("text")


def is_text(value):
    """True if the value is a text of a document."""
    if not isinstance(value, str) or len(value) > LONGEST_TEXT:
        return False
    return all(is_code(ord(character)) for character in value)


def is_code(code):
    """True if this is the code of a character of a text."""
    return code == NEWLINE or 32 <= code <= 126 and code != PERCENT


def counted(changes):
    """The list of the changes that count, sorted by key, then by time."""
    last = {}
    for time, key, text in changes:
        last[(key, time)] = (time, key, text)
    return [last[place] for place in sorted(last)]
