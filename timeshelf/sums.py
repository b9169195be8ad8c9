"""Sums of rows of integers, and the rows of the leaves of an index."""

FIRST_SUM = 7
FACTOR = 31

# The first number of a row tells what it is the row of.
PLACE = 1
POSTING = 2


def sum_of(row, modulus):
    """The sum of a row of integers for this modulus."""
    total = FIRST_SUM
    for number in row:
        total = (FACTOR * total + number + 1) % modulus
    return total


def is_place(leaf):
    """True if the leaf is the place of a version, and no posting."""
    return len(leaf) == 3


def row_of_leaf(leaf):
    """The row of a leaf, a tuple of integers."""
    if is_place(leaf):
        return (PLACE,) + numbers_of_place(leaf)
    places = leaf[4]
    return (POSTING,) + numbers_of_string(leaf[0]) + numbers_of_place(leaf[1:4]) + (len(places),) + places


def numbers_of_place(place):
    """The numbers of a key, a start and an end."""
    key, start, end = place
    told = (0,) if end is None else (1, end)
    return numbers_of_string(key) + (start,) + told


def numbers_of_string(text):
    """The length of a string and the codes of its characters."""
    return (len(text),) + tuple([ord(character) for character in text])
