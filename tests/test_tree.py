"""[m3], [m4]: trees of sums, the sides of stretches, and the top that is found by them."""

import unittest

from plain import row_plainly, sides_plainly, sum_plainly, tree_plainly
from timeshelf.tree import sides, top_from, tree

LARGE = 2 ** 31
MOST = 20

# Leaves that are all different; places and postings.
LEAVES = [("a", at, at + 1) for at in range(9)] + [("w" + str(at), "a", at, None, (at,)) for at in range(10, 21)]


def lowest(count, modulus=LARGE):
    return [sum_plainly(row_plainly(leaf), modulus) for leaf in LEAVES[:count]]


def pair(one, other, modulus=LARGE):
    return sum_plainly((3, one, other), modulus)


class Trees(unittest.TestCase):
    def test_no_leaf(self):
        self.assertEqual(tree([], 100), [])

    def test_one_leaf(self):
        # (1, 1, 97, 5, 0): 219, 6791, 210619, 6529195, 202405046
        self.assertEqual(tree([("a", 5, None)], LARGE), [[202405046]])
        self.assertEqual(tree([("a", 5, None)], 1000), [[46]])

    def test_two_leaves(self):
        x, y = lowest(2)
        self.assertEqual(tree(LEAVES[:2], LARGE), [[x, y], [pair(x, y)]])
        # 31 * 7 + 3 + 1 is 221.
        x, y = lowest(2, 1000)
        self.assertEqual(tree(LEAVES[:2], 1000), [[x, y], [(31 * (31 * 221 + x + 1) + y + 1) % 1000]])

    def test_three_leaves(self):
        x, y, z = lowest(3)
        self.assertEqual(tree(LEAVES[:3], LARGE), [[x, y, z], [pair(x, y), z], [pair(pair(x, y), z)]])

    def test_five_leaves(self):
        v, w, x, y, z = lowest(5)
        second = [pair(v, w), pair(x, y), z]
        third = [pair(second[0], second[1]), z]
        self.assertEqual(tree(LEAVES[:5], LARGE), [[v, w, x, y, z], second, third, [pair(third[0], z)]])

    def test_every_number_of_leaves(self):
        for count in range(1, MOST + 1):
            for modulus in (2, 100, LARGE):
                levels = tree(LEAVES[:count], modulus)
                self.assertEqual(levels[0], lowest(count, modulus))
                self.assertEqual(len(levels[-1]), 1)
                for low, high in zip(levels, levels[1:]):
                    self.assertGreater(len(low), 1)
                    expected = [pair(low[at], low[at + 1], modulus) for at in range(0, len(low) - 1, 2)]
                    # A last one without a neighbour goes up as it is.
                    self.assertEqual(high, expected + low[len(low) // 2 * 2:])
                self.assertEqual(levels, tree_plainly(LEAVES[:count], modulus))

    def test_the_leaves_are_not_modified_and_the_levels_are_new(self):
        leaves = LEAVES[:3]
        levels = tree(leaves, LARGE)
        levels[0].clear()
        levels[1].append(4)
        self.assertEqual(leaves, LEAVES[:3])
        self.assertEqual(tree(leaves, LARGE), tree_plainly(leaves, LARGE))
        one = tree(LEAVES[:1], LARGE)
        one[0].clear()
        self.assertEqual(tree(LEAVES[:1], LARGE), tree_plainly(LEAVES[:1], LARGE))


class Sides(unittest.TestCase):
    def test_one_leaf(self):
        self.assertEqual(sides([[5]], 0, 0), ())

    def test_two_leaves(self):
        self.assertEqual(sides([[5, 6], [7]], 0, 0), ((None, 6),))
        self.assertEqual(sides([[5, 6], [7]], 1, 1), ((5, None),))
        self.assertEqual(sides([[5, 6], [7]], 0, 1), ((None, None),))

    def test_five_leaves(self):
        levels = [[1, 2, 3, 4, 5], [6, 7, 5], [8, 5], [9]]
        self.assertEqual(sides(levels, 0, 0), ((None, 2), (None, 7), (None, 5)))
        self.assertEqual(sides(levels, 1, 1), ((1, None), (None, 7), (None, 5)))
        self.assertEqual(sides(levels, 1, 2), ((1, 4), (None, None), (None, 5)))
        self.assertEqual(sides(levels, 3, 3), ((3, None), (6, None), (None, 5)))
        self.assertEqual(sides(levels, 4, 4), ((None, None), (None, None), (8, None)))
        self.assertEqual(sides(levels, 3, 4), ((3, None), (6, None), (None, None)))
        self.assertEqual(sides(levels, 0, 4), ((None, None), (None, None), (None, None)))

    def test_a_sum_of_0_is_there(self):
        self.assertEqual(sides([[0, 0], [7]], 0, 0), ((None, 0),))
        self.assertEqual(sides([[0, 0], [7]], 1, 1), ((0, None),))

    def test_every_stretch_of_every_tree(self):
        for count in range(1, MOST + 1):
            levels = tree_plainly(LEAVES[:count], LARGE)
            before = [list(level) for level in levels]
            for first in range(count):
                for last in range(first, count):
                    self.assertEqual(sides(levels, first, last), sides_plainly(levels, first, last))
            self.assertEqual(levels, before)


def stretches():
    """For each stretch of each tree its sums, its first index, the number of leaves, its sides and the top."""
    for count in range(1, MOST + 1):
        levels = tree_plainly(LEAVES[:count], LARGE)
        for first in range(count):
            for last in range(first, count):
                yield levels[0][first:last + 1], first, count, sides_plainly(levels, first, last), levels[-1][0]


def with_side(told, height, at, side):
    """The sides with another one at this height, left or right."""
    level = list(told[height])
    level[at] = side
    return told[:height] + (tuple(level),) + told[height + 1:]


class Tops(unittest.TestCase):
    def test_every_stretch_of_every_tree(self):
        for sums, first, count, told, top in stretches():
            self.assertEqual(top_from(sums, first, count, told, LARGE), top)

    def test_a_tree_of_one_leaf(self):
        self.assertEqual(top_from([5], 0, 1, (), 100), 5)
        self.assertIsNone(top_from([5], 0, 1, ((None, None),), 100))
        self.assertIsNone(top_from([5], 0, 1, ((None, 5),), 100))

    def test_a_tree_of_two_leaves(self):
        # 31 * (31 * 221 + 5 + 1) + 6 + 1 is 212574.
        self.assertEqual(top_from([5], 0, 2, ((None, 6),), 10 ** 6), 212574)
        self.assertEqual(top_from([6], 1, 2, ((5, None),), 10 ** 6), 212574)
        self.assertEqual(top_from([5, 6], 0, 2, ((None, None),), 10 ** 6), 212574)
        self.assertEqual(top_from([5, 6], 0, 2, ((None, None),), 1000), 574)

    def test_a_sum_of_0_at_the_sides(self):
        top = top_from([5, 0], 0, 2, ((None, None),), 1000)
        self.assertEqual(top_from([5], 0, 2, ((None, 0),), 1000), top)
        self.assertIsNone(top_from([5, 0], 0, 2, ((0, None),), 1000))
        self.assertIsNone(top_from([5, 0], 0, 2, ((None, 0),), 1000))

    def test_a_sum_left_out_or_put_in(self):
        for sums, first, count, told, _ in stretches():
            for height, level in enumerate(told):
                for at, side in enumerate(level):
                    other = 5 if side is None else None
                    self.assertIsNone(top_from(sums, first, count, with_side(told, height, at, other), LARGE))
                    if side is None:
                        self.assertIsNone(top_from(sums, first, count, with_side(told, height, at, 0), LARGE))

    def test_a_sum_at_the_other_side(self):
        for sums, first, count, told, _ in stretches():
            for height, (left, right) in enumerate(told):
                if (left is None) != (right is None):
                    turned = told[:height] + ((right, left),) + told[height + 1:]
                    self.assertIsNone(top_from(sums, first, count, turned, LARGE))

    def test_a_level_too_many_or_too_few(self):
        for sums, first, count, told, _ in stretches():
            for level in ((None, None), (5, None), (None, 5)):
                self.assertIsNone(top_from(sums, first, count, told + (level,), LARGE))
            if told:
                self.assertIsNone(top_from(sums, first, count, told[:-1], LARGE))
                self.assertIsNone(top_from(sums, first, count, (), LARGE))

    def test_another_sum_gives_another_top(self):
        for sums, first, count, told, top in stretches():
            self.assertNotEqual(top_from([sums[0] + 1] + sums[1:], first, count, told, LARGE), top)
            for height, level in enumerate(told):
                for at, side in enumerate(level):
                    if side is not None:
                        changed = with_side(told, height, at, side + 1)
                        self.assertNotIn(top_from(sums, first, count, changed, LARGE), (top, None))

    def test_what_is_no_stretch_of_the_tree(self):
        for count in range(1, 10):
            levels = tree_plainly(LEAVES[:count], LARGE)
            for told in {sides_plainly(levels, first, last) for first in range(count) for last in range(first, count)}:
                self.assertIsNone(top_from([], 0, count, told, LARGE))
                self.assertIsNone(top_from([5], -1, count, told, LARGE))
                self.assertIsNone(top_from([5], -2, count, told, LARGE))
                self.assertIsNone(top_from([5], count, count, told, LARGE))
                self.assertIsNone(top_from([5] * (count + 1), 0, count, told, LARGE))
                self.assertIsNone(top_from([5, 5], count - 1, count, told, LARGE))

    def test_the_arguments_are_not_modified(self):
        sums = [5, 6]
        top_from(sums, 0, 3, ((None, None), (None, 7)), 100)
        self.assertEqual(sums, [5, 6])
