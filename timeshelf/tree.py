"""Trees of sums over the leaves of an index, and how the top is found from a few of the leaves."""

from timeshelf.sums import row_of_leaf, sum_of

# The first number of the row of two neighbouring sums.
PAIR = 3

# A node is a tuple of a sum and the row that it is the sum of; the row is None where just the sum is told.


def tree(leaves, modulus):
    """The list of the levels, each a list of sums, the lowest first; the empty list for no leaves."""
    return [[made for made, _ in level] for level in levels_over(leaves, modulus)]


def levels_over(leaves, modulus):
    """The list of the levels of the tree, each a list of nodes."""
    nodes = nodes_of(leaves, modulus)
    levels = []
    while len(nodes) > 1:
        levels.append(nodes)
        nodes = level_above(nodes, modulus)
    # What is left is the top; nothing, if there is no leaf.
    if len(nodes) > 0:
        levels.append(nodes)
    return levels


def nodes_of(leaves, modulus):
    """The list of the nodes of leaves."""
    return [node_of(row_of_leaf(leaf), modulus) for leaf in leaves]


def node_of(row, modulus):
    """The node of a row."""
    return (sum_of(row, modulus), row)


def level_above(nodes, modulus):
    """The list of the nodes above consecutive nodes, of which the first has an even index."""
    above = []
    for at in range(0, len(nodes), 2):
        if at + 1 < len(nodes):
            above.append(node_of((PAIR, nodes[at][0], nodes[at + 1][0]), modulus))
        else:
            # As it is, and so with its own row.
            above.append(nodes[at])
    return above


def sides(levels, first, last):
    """The tuple of the sides of the stretch from the first to the last of these indexes."""
    found = []
    for level in levels[:-1]:
        left = level[first - 1] if has_left(first) else None
        right = level[last + 1] if has_right(last, len(level)) else None
        found.append((left, right))
        first = first // 2
        last = last // 2
    return tuple(found)


def has_left(first):
    """True if the sides have the left neighbour of the first known sum of a level, at this index."""
    return first % 2 == 1


def has_right(last, count):
    """True if the sides have the right neighbour of the last known sum of a level of `count` sums."""
    return last % 2 == 0 and last + 1 < count


def top_from(sums, first, count, sides, modulus):
    """The top of a tree of `count` leaves by the sums of a stretch of them, which begins at the index
    `first`, and its sides; None if these are not just where they must be.
    """
    levels = levels_from([(told, None) for told in sums], first, count, sides, modulus)
    if levels is None:
        return None
    return levels[-1][0][0]


def levels_from(nodes, first, count, sides, modulus):
    """The list of the nodes that are found from those of a stretch, level by level, the lowest first;
    None if the sides are not just where they must be.
    """
    if len(nodes) == 0 or first < 0 or first + len(nodes) > count:
        return None
    levels = [nodes]
    for left, right in sides:
        last = first + len(nodes) - 1
        if count == 1 or has_left(first) != (left is not None) or has_right(last, count) != (right is not None):
            return None
        nodes = level_above(node_told(left) + nodes + node_told(right), modulus)
        levels.append(nodes)
        first = first // 2
        count = (count + 1) // 2
    return levels if count == 1 else None


def node_told(told):
    """A list with the node of a sum that is told, none for None."""
    return [] if told is None else [(told, None)]
