"""Papers of answers: the leaves of an index that an answer is told by, with the sides of each stretch."""

from timeshelf.answering import needs_all
from timeshelf.matching import fits
from timeshelf.questions import patterns_of
from timeshelf.sums import is_place
from timeshelf.tree import sides, tree

# Where a leaf stands, seen from what a stretch is of.
AHEAD = 0
WITHIN = 1
BEHIND = 2


def leaves_of(index):
    """The list of the leaves of an index: the places of its versions, then its postings."""
    return index.versions() + [posting for word in index.words() for posting in index.postings(word)]


def digest(index, modulus):
    """The tuple of the modulus, the number of leaves and the top of the tree; 0 is the top of no leaves."""
    levels = tree(leaves_of(index), modulus)
    if len(levels) == 0:
        return (modulus, 0, 0)
    return (modulus, len(levels[0]), levels[-1][0])


def paper_of(index, question, modulus):
    """The list of the tuples of a first index, leaves and sides, one for each stretch of the question."""
    leaves = leaves_of(index)
    levels = tree(leaves, modulus)
    paper = []
    for wanted in wanted_by(question, len(leaves)):
        first, last = stretch_of(leaves, wanted)
        paper.append((first, tuple(leaves[first:last + 1]), sides(levels, first, last)))
    return paper


def wanted_by(question, count):
    """The list of what the stretches of the question are of, in an index of `count` leaves: None
    stands for all versions, a pattern for the postings of its words.
    """
    if count == 0:
        return []
    versions = [None] if needs_all(question) else []
    return versions + patterns_of(question)


def stretch_of(leaves, wanted):
    """The first and the last index of a stretch: what it is of, the leaf ahead and the leaf behind."""
    stands = [standing(leaf, wanted) for leaf in leaves]
    ahead = stands.count(AHEAD)
    behind = stands.count(BEHIND)
    return max(ahead - 1, 0), min(len(leaves) - behind, len(leaves) - 1)


def standing(leaf, wanted):
    """Where the leaf stands, seen from what the stretch is of."""
    if wanted is None:
        return WITHIN if is_place(leaf) else BEHIND
    if is_place(leaf) or leaf[0] < wanted[1]:
        return AHEAD
    return WITHIN if fits(leaf[0], wanted) else BEHIND
