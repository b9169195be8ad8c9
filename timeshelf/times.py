"""Timelines: sets of times that are told by their change points."""


def is_number(value):
    """True if the value is an integer; True and False are none."""
    return isinstance(value, int) and not isinstance(value, bool)


def points_until(timeline, time):
    """The number of change points that are at most this time."""
    low = 0
    high = len(timeline)
    while low < high:
        middle = (low + high) // 2
        if timeline[middle] <= time:
            low = middle + 1
        else:
            high = middle
    return low


def is_in(timeline, time):
    """True if the timeline has this time."""
    return points_until(timeline, time) % 2 == 1


def join(one, other):
    """The timeline of the times that are in at least one of the two."""
    points = []
    for time in sorted(set(one) | set(other)):
        inside = is_in(one, time) or is_in(other, time)
        # An odd number of points so far means that the times before are inside.
        if inside != (len(points) % 2 == 1):
            points.append(time)
    return tuple(points)


def meet(one, other):
    """The timeline of the times that are in both."""
    # A time is in both if it is not in the rest of one or of the other.
    return rest(join(rest(one), rest(other)))


def rest(timeline):
    """The timeline of the times from 0 on that are not in this one."""
    if timeline[:1] == (0,):
        return timeline[1:]
    return (0,) + timeline


def of_span(start, end):
    """The timeline of the times from start on up to end - 1; without an end if that is None."""
    if end is None:
        return (start,)
    return (start, end)


def spans(timeline):
    """The list of the longest spans of the timeline, rising."""
    ends = timeline[1::2] + (None,)
    return list(zip(timeline[::2], ends))


def length_before(timeline, time):
    """The number of times of the timeline that are less than this time."""
    total = 0
    for start, end in spans(timeline):
        if start < time:
            last = time if end is None else min(end, time)
            total += last - start
    return total


def timelines_of(places):
    """The timelines of the spans of places (key, start, end), those of each key together: an answer."""
    found = {}
    for key, start, end in places:
        found[key] = join(found.get(key, ()), of_span(start, end))
    return found
