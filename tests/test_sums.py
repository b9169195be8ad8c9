"""[m1], [m2]: sums of rows of integers, and the rows of leaves."""

import random
import unittest

from making import made_changes
from plain import leaves_plainly, row_plainly, sum_plainly
from timeshelf.sums import row_of_leaf, sum_of


class Sums(unittest.TestCase):
    def test_no_integer(self):
        self.assertEqual(sum_of((), 1000), 7)
        self.assertEqual(sum_of([], 2 ** 31), 7)
        # Nothing is taken modulo the modulus if there is no integer.
        self.assertEqual(sum_of((), 2), 7)

    def test_one_integer(self):
        # 31 * 7 + 0 + 1
        self.assertEqual(sum_of((0,), 1000), 218)
        self.assertEqual(sum_of((5,), 1000), 223)
        self.assertEqual(sum_of((5,), 223), 0)
        self.assertEqual(sum_of((5,), 100), 23)

    def test_several_integers(self):
        # 31 * 223 + 2 + 1 is 6916, 31 * 916 + 0 + 1 is 28397.
        self.assertEqual(sum_of((5, 2), 1000), 916)
        self.assertEqual(sum_of((5, 2, 0), 1000), 397)
        self.assertEqual(sum_of((2, 5), 1000), 826)
        self.assertEqual(sum_of((0, 0), 10000), 6759)

    def test_integers_greater_than_the_modulus(self):
        # 217 + 2500 + 1
        self.assertEqual(sum_of((2500,), 1000), 718)
        self.assertEqual(sum_of((10 ** 12,), 1000), 218)

    def test_negative_integers(self):
        self.assertEqual(sum_of((-1,), 1000), 217)
        self.assertEqual(sum_of((-218,), 1000), 0)
        self.assertEqual(sum_of((-219,), 10), 9)
        self.assertEqual(sum_of((-219, 0), 10), 0)

    def test_modulus_2(self):
        self.assertEqual([sum_of((number,), 2) for number in (0, 1, 2, 3, -1)], [0, 1, 0, 1, 1])
        self.assertEqual(sum_of((1, 1), 2), 1)
        self.assertEqual(sum_of((1, 0), 2), 0)
        self.assertEqual(sum_of((0, 0), 2), 1)

    def test_modulus_2_to_the_31(self):
        self.assertEqual(sum_of((2 ** 31,), 2 ** 31), 218)
        self.assertEqual(sum_of((2 ** 31 - 219,), 2 ** 31), 2 ** 31 - 1)
        self.assertEqual(sum_of((2 ** 31 - 218,), 2 ** 31), 0)
        self.assertEqual(sum_of((10 ** 9, 10 ** 9), 2 ** 31), 1935235687)

    def test_lists_and_tuples(self):
        self.assertEqual(sum_of([5, 2, 0], 1000), sum_of((5, 2, 0), 1000))

    def test_the_row_is_not_modified(self):
        row = [5, 2, 0]
        sum_of(row, 1000)
        self.assertEqual(row, [5, 2, 0])

    def test_made_rows(self):
        chance = random.Random(101)
        for _ in range(600):
            row = [chance.randrange(-9, 300) for _ in range(chance.randrange(1, 30))]
            modulus = chance.choice([2, 3, 6, 100, 65521, 2 ** 31])
            self.assertEqual(sum_of(row, modulus), sum_plainly(row, modulus))


class Rows(unittest.TestCase):
    def test_places(self):
        self.assertEqual(row_of_leaf(("a", 5, None)), (1, 1, 97, 5, 0))
        self.assertEqual(row_of_leaf(("a", 5, 9)), (1, 1, 97, 5, 1, 9))
        self.assertEqual(row_of_leaf(("0z", 0, 100000)), (1, 2, 48, 122, 0, 1, 100000))
        self.assertEqual(row_of_leaf(("abcdefgh", 7, None)), (1, 8, 97, 98, 99, 100, 101, 102, 103, 104, 7, 0))

    def test_no_end_is_no_end_of_0_or_1(self):
        self.assertEqual(row_of_leaf(("a", 0, None)), (1, 1, 97, 0, 0))
        self.assertEqual(row_of_leaf(("a", 0, 0)), (1, 1, 97, 0, 1, 0))
        self.assertEqual(row_of_leaf(("a", 0, 1)), (1, 1, 97, 0, 1, 1))

    def test_postings(self):
        self.assertEqual(row_of_leaf(("b", "a", 5, None, (3,))), (2, 1, 98, 1, 97, 5, 0, 1, 3))
        self.assertEqual(row_of_leaf(("b", "a", 5, 9, (3,))), (2, 1, 98, 1, 97, 5, 1, 9, 1, 3))
        self.assertEqual(row_of_leaf(("the", "a1", 0, None, (0, 2, 7))),
                         (2, 3, 116, 104, 101, 2, 97, 49, 0, 0, 3, 0, 2, 7))
        self.assertEqual(row_of_leaf(("abcdefghij12", "12345678", 1, 2, (199,))),
                         (2, 12) + tuple(range(97, 107)) + (49, 50, 8) + tuple(range(49, 57)) + (1, 1, 2, 1, 199))

    def test_a_row_is_a_tuple(self):
        self.assertIsInstance(row_of_leaf(("a", 5, None)), tuple)
        self.assertIsInstance(row_of_leaf(("b", "a", 5, None, (3,))), tuple)

    def test_different_leaves_have_different_rows(self):
        spans = [(start, end) for start in (0, 1, 2) for end in (None, 0, 1, 2, 3)]
        names = ["a", "b", "ab", "1", "a1"]
        places = [(key, start, end) for key in names for start, end in spans]
        postings = [(word,) + place + (stands,) for word in names for place in places
                    for stands in ((0,), (1,), (0, 1), (2,), (0, 2), (0, 1, 2))]
        rows = {row_of_leaf(leaf) for leaf in places + postings}
        self.assertEqual(len(rows), len(places) + len(postings))

    def test_leaves_of_made_changes(self):
        chance = random.Random(102)
        for _ in range(60):
            for leaf in leaves_plainly(made_changes(chance, 20), ()):
                self.assertEqual(row_of_leaf(leaf), row_plainly(leaf))
