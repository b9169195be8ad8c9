"""What the document says, computed in the plainest way, for the tests to compare with."""

import itertools

from timeshelf.questions import patterns_of
from timeshelf.words import document_of


def fits_plainly(word, pattern):
    kind, told = pattern
    return word == told if kind == "word" else word[:len(told)] == told


def standings_plainly(document, question):
    """All rows of rising places, tried one by one."""
    _, patterns, gap = question
    found = []
    for places in itertools.combinations(range(len(document)), len(patterns)):
        between = places[-1] - places[0] + 1 - len(patterns)
        if between <= gap and all(fits_plainly(document[at], told) for at, told in zip(places, patterns)):
            found.append(places)
    return sorted(found)


def matches_plainly(document, question):
    if question[0] == "row":
        return standings_plainly(document, question) != []
    if question[0] == "all":
        return True
    if question[0] == "not":
        return not matches_plainly(document, question[1])
    answers = [matches_plainly(document, part) for part in question[1]]
    return False not in answers if question[0] == "and" else True in answers


def document_plainly(changes, endings, key, time):
    """[s1], [s2]: the document of a key at a time, by the last change until then."""
    last = None
    for change in changes:
        if change[1] == key and change[0] <= time and (last is None or change[0] >= last[0]):
            last = change
    if last is None or last[2] is None:
        return None
    return document_of(last[2], endings)


def times_plainly(changes, key):
    return sorted({change[0] for change in changes if change[1] == key})


def keys_plainly(changes):
    return sorted({change[1] for change in changes})


def history_plainly(changes, endings, key):
    """[s2]: the versions, each as long as the document stays the same."""
    versions = []
    document = None
    for time in times_plainly(changes, key):
        now = document_plainly(changes, endings, key, time)
        if now != document:
            if document is not None:
                versions[-1] = (versions[-1][0], time, document)
            if now is not None:
                versions.append((time, None, now))
        document = now
    return tuple(versions)


def answer_plainly(changes, endings, question):
    """[s3]: for each key, the times at which it begins or ends that its document matches."""
    answer = {}
    for key in keys_plainly(changes):
        points = []
        for time in times_plainly(changes, key):
            document = document_plainly(changes, endings, key, time)
            inside = document is not None and matches_plainly(document, question)
            if inside != (len(points) % 2 == 1):
                points.append(time)
        if points:
            answer[key] = tuple(points)
    return answer


def places_plainly(changes, endings):
    """[i1]: the places of all versions."""
    return [(key, start, end) for key in keys_plainly(changes)
            for start, end, _ in history_plainly(changes, endings, key)]


def postings_plainly(changes, endings):
    """[i1]: all postings, by word, key and start."""
    found = {}
    for key in keys_plainly(changes):
        for start, end, document in history_plainly(changes, endings, key):
            for word in document:
                places = tuple(at for at in range(len(document)) if document[at] == word)
                found[(word, key, start)] = (word, key, start, end, places)
    return [found[place] for place in sorted(found)]


def leaves_plainly(changes, endings):
    """[m2]: the leaves in their order."""
    return places_plainly(changes, endings) + postings_plainly(changes, endings)


def sum_plainly(row, modulus):
    """[m1]: the sum, by powers of 31."""
    if not row:
        # Nothing is taken modulo the modulus if there is no integer.
        return 7
    total = 7 * pow(31, len(row), modulus)
    for at, number in enumerate(row):
        total += (number + 1) * pow(31, len(row) - 1 - at, modulus)
    return total % modulus


def string_plainly(text):
    return [len(text)] + [ord(character) for character in text]


def row_plainly(leaf):
    """[m2]: the row of a leaf."""
    key, start, end = leaf[-4:-1] if len(leaf) == 5 else leaf
    row = [1] if len(leaf) == 3 else [2] + string_plainly(leaf[0])
    row += string_plainly(key) + [start] + ([0] if end is None else [1, end])
    if len(leaf) == 5:
        row += [len(leaf[4])] + list(leaf[4])
    return tuple(row)


def nodes_plainly(leaves, modulus):
    """[m3]: for each (height, index) in the tree the sum, and the row that it is the sum of."""
    rows = [row_plainly(leaf) for leaf in leaves]
    nodes = {(0, at): (sum_plainly(row, modulus), row) for at, row in enumerate(rows)}
    height, width = 0, len(rows)
    while width > 1:
        for at in range((width + 1) // 2):
            left, right = nodes[height, 2 * at], nodes.get((height, 2 * at + 1))
            if right is None:
                nodes[height + 1, at] = left
            else:
                row = (3, left[0], right[0])
                nodes[height + 1, at] = (sum_plainly(row, modulus), row)
        height, width = height + 1, (width + 1) // 2
    return nodes


def tree_plainly(leaves, modulus):
    """[m3]: the levels of sums."""
    levels = []
    for (height, _), (made, _) in sorted(nodes_plainly(leaves, modulus).items()):
        levels += [[]] * (height == len(levels))
        levels[height] = levels[height] + [made]
    return levels


def digest_plainly(leaves, modulus):
    """[m3]: the digest."""
    levels = tree_plainly(leaves, modulus)
    return (modulus, len(leaves), levels[-1][0] if levels else 0)


def sides_plainly(levels, first, last):
    """[m4]: for each level, of the neighbours that are added into one sum with a known one, the unknown ones."""
    sides = []
    known = range(first, last + 1)
    for level in levels[:-1]:
        partners = [at ^ 1 for at in known if at ^ 1 not in known and at ^ 1 < len(level)]
        left = [level[at] for at in partners if at < known[0]]
        right = [level[at] for at in partners if at > known[-1]]
        sides.append((left[0] if left else None, right[0] if right else None))
        known = range(known[0] // 2, known[-1] // 2 + 1)
    return tuple(sides)


def entry_plainly(leaves, first, last, modulus):
    """[m6]: the entry of the leaves from the first to the last of these indexes."""
    return (first, tuple(leaves[first:last + 1]), sides_plainly(tree_plainly(leaves, modulus), first, last))


def stretches_plainly(leaves, question):
    """[m5]: the first and the last index of each stretch."""
    places = [leaf for leaf in leaves if len(leaf) == 3]
    last = len(leaves) - 1
    stretches = []
    if leaves and matches_plainly((), question):
        stretches.append((0, min(len(places), last)))
    for pattern in patterns_of(question) if leaves else []:
        found = [at for at, leaf in enumerate(leaves) if len(leaf) == 5 and fits_plainly(leaf[0], pattern)]
        # If there is none, the stretch is where it would be.
        begin = len(places) + len([leaf for leaf in leaves if len(leaf) == 5 and leaf[0] < pattern[1]])
        end = found[-1] + 1 if found else begin
        stretches.append((max(begin - 1, 0), min(end, last)))
    return stretches


def paper_plainly(leaves, question, modulus):
    """[m6]: the paper."""
    return [entry_plainly(leaves, first, last, modulus) for first, last in stretches_plainly(leaves, question)]


def number_plainly(n):
    """[f4]: the bytes of an integer."""
    digits = [n // 128 ** at % 128 for at in range(max(1, (n.bit_length() + 6) // 7))]
    return [digit + 128 for digit in digits[:-1]] + digits[-1:]


def text_plainly(text):
    """[f4]: the bytes of a string."""
    return number_plainly(len(text)) + [ord(character) for character in text]


def record_plainly(body):
    """[f5]: the bytes of a record."""
    return number_plainly(len(body)) + body + number_plainly(sum_plainly(body, 65521))


def endings_plainly(endings):
    """[f6]: the bytes of endings."""
    return number_plainly(len(endings)) + [byte for ending, least in endings for byte in text_plainly(ending) + [least]]


def telling_plainly(telling):
    """[f4]: the bytes of a telling."""
    stamp, source, (time, key, text) = telling
    head = [byte for number in (stamp, source, time) for byte in number_plainly(number)] + text_plainly(key)
    return head + ([0] if text is None else [1] + text_plainly(text))


def compacted_plainly(tellings):
    """[f3]: those with no later telling of the same key and time."""
    told = sorted(tellings, key=lambda telling: telling[:2])
    return [telling for at, telling in enumerate(told)
            if not [1 for later in told[at + 1:] if later[2][:2] == telling[2][:2]]]
