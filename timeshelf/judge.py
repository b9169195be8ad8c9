"""The judge, who finds the answer in a paper by a digest of the index, and collisions of sums."""

from timeshelf.answering import answer_by, needs_all, places_told
from timeshelf.changes import LONGEST_KEY
from timeshelf.errors import WrongPaper
from timeshelf.evidence import is_rising
from timeshelf.papers import AHEAD, BEHIND, leaves_of, standing, wanted_by
from timeshelf.sums import is_place, row_of_leaf, sum_of
from timeshelf.times import is_number
from timeshelf.tree import levels_from, levels_over, nodes_of, top_from
from timeshelf.words import LONGEST, is_small


def judged(digest, question, paper):
    """The answer by a paper that is accepted; raises WrongPaper with the index of the first wrong entry."""
    all_wanted = wanted_by(question, digest[1])
    if len(paper) != len(all_wanted):
        raise WrongPaper(len(paper))
    for at, wanted in enumerate(all_wanted):
        if not is_accepted(digest, wanted, paper[at]):
            raise WrongPaper(at)
    return answer_shown(question, paper)


def is_accepted(digest, wanted, entry):
    """True if an entry of a paper is right for what its stretch is of."""
    modulus, count, top = digest
    first, leaves, sides = entry
    if not all([is_leaf(leaf) for leaf in leaves]) or not are_in_order(leaves):
        return False
    if not is_whole(first, leaves, count, wanted):
        return False
    # There is no top, and so not the right one, for no leaves and for indexes that are not in the tree.
    sums = [sum_of(row_of_leaf(leaf), modulus) for leaf in leaves]
    return top_from(sums, first, count, sides, modulus) == top


def is_leaf(leaf):
    """True if the tuple, in which anything may be, is the place of a version or a posting."""
    if len(leaf) == 5:
        return is_small(leaf[0], LONGEST) and is_version(leaf[1:4]) and is_rising(leaf[4])
    return len(leaf) == 3 and is_version(leaf)


def is_version(place):
    """True if the three values, which may be anything, are the place of a version."""
    key, start, end = place
    if not is_small(key, LONGEST_KEY) or not is_number(start) or start < 0:
        return False
    return end is None or is_number(end) and end > start


def are_in_order(leaves):
    """True if the leaves are in strictly rising order."""
    order = [order_of(leaf) for leaf in leaves]
    return all([low < high for low, high in zip(order, order[1:])])


def order_of(leaf):
    """What the leaves are ordered by: places by key and start, ahead of postings, by word, key and start."""
    if is_place(leaf):
        return (0,) + leaf[:2]
    return (1,) + leaf[:3]


def is_whole(first, leaves, count, wanted):
    """True if no leaf that the stretch is of can be missing, and none is there that need not be."""
    stands = [standing(leaf, wanted) for leaf in leaves]
    ahead = stands.count(AHEAD)
    behind = stands.count(BEHIND)
    if ahead == 0 and first != 0 or behind == 0 and first + len(leaves) != count:
        return False
    return ahead <= 1 and behind <= 1


def answer_shown(question, paper):
    """The answer by the places and the postings of a paper."""
    # One leaf can stand in several stretches.
    shown = list({leaf: True for _, leaves, _ in paper for leaf in leaves})
    postings = [leaf for leaf in shown if not is_place(leaf)]
    places = [leaf for leaf in shown if is_place(leaf)] if needs_all(question) else places_told(postings)
    return answer_by(question, places, postings)


def collision(index, modulus, paper):
    """Two different rows with one sum, of the index and of the paper; None if none are found."""
    leaves = leaves_of(index)
    levels = levels_over(leaves, modulus)
    for first, shown, sides in paper:
        # What is not even formed as a leaf has no row.
        if all([has_row(leaf) for leaf in shown]):
            others = levels_from(nodes_of(shown, modulus), first, len(leaves), sides, modulus)
            found = None if others is None else collision_between(levels, others, first)
            if found is not None:
                return found
    return None


def has_row(leaf):
    """True if the tuple, in which anything may be, is formed as a leaf is."""
    if len(leaf) == 5:
        places = leaf[4]
        numbers = isinstance(places, tuple) and all([is_number(place) for place in places])
        return numbers and isinstance(leaf[0], str) and has_row(leaf[1:4])
    if len(leaf) != 3:
        return False
    key, start, end = leaf
    return isinstance(key, str) and is_number(start) and (end is None or is_number(end))


def collision_between(levels, others, first):
    """The first collision between the levels of an index and those that the leaves from this index on lead to."""
    for height in reversed(range(len(others))):
        for node, other in zip(levels[height][first >> height:], others[height]):
            if node[0] == other[0] and node[1] != other[1]:
                return (node[1], other[1])
    return None
