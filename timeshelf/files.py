"""Files of copies, as lists of bytes, and copies that are made of files."""

from timeshelf.changes import check_change
from timeshelf.errors import InvalidBytes, InvalidChange, OtherShelf, TooMany
from timeshelf.merging import Copy, is_source
from timeshelf.records import number_bytes, read_number, read_record, read_text, record_of, text_bytes
from timeshelf.words import is_small

MOST_ENDINGS = 9
LONGEST_ENDING = 4
LARGEST_LEAST = 9

# What stands behind the key of a change.
TAKEN_AWAY = 0
WRITTEN = 1

# The kinds of a stamp, a source, a time, a key, and of what stands behind it.
PARTS_OF_TELLING = ("number", "number", "number", "text", "number")


def file_of(copy):
    """The bytes of the file of a copy."""
    data = record_of(endings_bytes(copy.endings()))
    for telling in copy.held():
        data.extend(record_of(telling_bytes(telling)))
    return data


def endings_bytes(endings):
    """The bytes of endings."""
    data = number_bytes(len(endings))
    for ending, least in endings:
        data.extend(text_bytes(ending) + number_bytes(least))
    return data


def telling_bytes(telling):
    """The bytes of a telling."""
    stamp, source, (time, key, text) = telling
    written = number_bytes(TAKEN_AWAY) if text is None else number_bytes(WRITTEN) + text_bytes(text)
    return number_bytes(stamp) + number_bytes(source) + number_bytes(time) + text_bytes(key) + written


def opened(data, source):
    """The tuple of the copy that a file tells, with this source, and the index behind its last record."""
    first = read_record(data, 0)
    endings = None if first is None else endings_in(first[0])
    if endings is None:
        raise InvalidBytes(0)
    copy = Copy(source, endings)
    at = first[1]
    record = read_record(data, at)
    while record is not None and taken_in(copy, telling_in(record[0])):
        at = record[1]
        record = read_record(data, at)
    return (copy, at)


def endings_in(body):
    """The endings that the body of a record is; None if it is none."""
    found = read_number(body, 0)
    if found is None or found[0] > MOST_ENDINGS:
        return None
    parts = parts_in(body, ("number",) + ("text", "number") * found[0])
    if parts is None:
        return None
    endings = tuple(zip(parts[1::2], parts[2::2]))
    return endings if all([is_ending(ending, least) for ending, least in endings]) else None


def is_ending(ending, least):
    """True if a string and an integer are an ending and its least number."""
    return is_small(ending, LONGEST_ENDING) and 1 <= least <= LARGEST_LEAST


def telling_in(body):
    """The telling that the body of a record is; None if it is none."""
    parts = parts_in(body, PARTS_OF_TELLING)
    if parts is not None and parts[4] == TAKEN_AWAY:
        return telling_of(parts[:4] + [None])
    parts = parts_in(body, PARTS_OF_TELLING + ("text",))
    if parts is not None and parts[4] == WRITTEN:
        return telling_of(parts[:4] + parts[5:])
    return None


def telling_of(parts):
    """The telling with this stamp, source, time, key and text; None if one of them cannot be."""
    stamp, source, time, key, text = parts
    try:
        check_change((time, key, text))
    except InvalidChange:
        return None
    return (stamp, source, (time, key, text)) if stamp >= 1 and is_source(source) else None


def parts_in(body, kinds):
    """The list of the integers and strings of these kinds that a body is; None if it is something else."""
    parts = []
    at = 0
    for kind in kinds:
        found = read_number(body, at) if kind == "number" else read_text(body, at)
        if found is None:
            return None
        parts.append(found[0])
        at = found[1]
    return parts if at == len(body) else None


def taken_in(copy, telling):
    """True if there is a telling and the copy takes it in; False if it cannot."""
    if telling is None:
        return False
    try:
        copy.take_in([telling])
    except (OtherShelf, TooMany):
        return False
    return True
