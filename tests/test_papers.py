"""[m2], [m3], [m5], [m6]: the leaves of an index, its digest, and the papers of questions."""

import random
import unittest

from making import QUESTIONS, SMALL, SMALL_LEAVES, after_telling, made_changes, made_question
from plain import (digest_plainly, entry_plainly, leaves_plainly, matches_plainly, paper_plainly, stretches_plainly,
                   tree_plainly)
from timeshelf.index import Index
from timeshelf.papers import digest, leaves_of, paper_of
from timeshelf.questions import patterns_of, read_question

MODULUS = 2 ** 31


def index_of(changes, endings=()):
    return after_telling(Index(endings), changes)


class Leaves(unittest.TestCase):
    def test_no_leaves(self):
        self.assertEqual(leaves_of(Index(())), [])
        self.assertEqual(leaves_of(index_of([(5, "a", None)])), [])
        self.assertEqual(leaves_of(index_of([(5, "a", "x"), (5, "a", None)])), [])

    def test_places_only(self):
        self.assertEqual(leaves_of(index_of([(5, "b", ""), (9, "b", None), (7, "a", " -")])),
                         [("a", 7, None), ("b", 5, 9)])

    def test_places_and_postings(self):
        self.assertEqual(leaves_of(index_of(SMALL)), SMALL_LEAVES)

    def test_the_list_is_new_each_time(self):
        index = index_of(SMALL)
        leaves_of(index).clear()
        self.assertEqual(leaves_of(index), SMALL_LEAVES)

    def test_behind_each_change(self):
        chance = random.Random(111)
        for _ in range(25):
            changes = made_changes(chance, 20)
            index = Index((("b", 1),))
            for at, change in enumerate(changes):
                index.tell(*change)
                self.assertEqual(leaves_of(index), leaves_plainly(changes[:at + 1], (("b", 1),)))


class Digests(unittest.TestCase):
    def test_no_leaves(self):
        self.assertEqual(digest(Index(()), 100), (100, 0, 0))
        self.assertEqual(digest(index_of([(5, "a", None)]), 2), (2, 0, 0))

    def test_one_leaf(self):
        # The sum of (1, 1, 97, 5, 0).
        self.assertEqual(digest(index_of([(5, "a", "")]), MODULUS), (MODULUS, 1, 202405046))
        self.assertEqual(digest(index_of([(5, "a", "")]), 1000), (1000, 1, 46))

    def test_places_and_postings(self):
        found = digest(index_of(SMALL), MODULUS)
        self.assertEqual(found, digest_plainly(SMALL_LEAVES, MODULUS))
        self.assertIsInstance(found, tuple)

    def test_behind_each_change(self):
        chance = random.Random(112)
        for _ in range(25):
            changes = made_changes(chance, 20)
            index = Index(())
            for at, change in enumerate(changes):
                index.tell(*change)
                for modulus in (2, 97, MODULUS):
                    expected = digest_plainly(leaves_plainly(changes[:at + 1], ()), modulus)
                    self.assertEqual(digest(index, modulus), expected)


class Papers(unittest.TestCase):
    def assert_stretches(self, changes, text, expected):
        """The stretches, as pairs of their first and last index."""
        index = index_of(changes)
        leaves = leaves_plainly(changes, ())
        paper = paper_of(index, read_question(text), MODULUS)
        self.assertIsInstance(paper, list)
        found = [(first, first + len(shown) - 1) for first, shown, _ in paper]
        self.assertEqual(found, expected, text)
        self.assertEqual(paper, [entry_plainly(leaves, first, last, MODULUS) for first, last in expected])

    def test_one_word(self):
        self.assert_stretches(SMALL, "mill", [(2, 5)])
        self.assert_stretches(SMALL, "mills", [(4, 6)])
        self.assert_stretches(SMALL, "old", [(5, 8)])

    def test_the_entry_by_hand(self):
        levels = tree_plainly(SMALL_LEAVES, MODULUS)
        self.assertEqual([len(level) for level in levels], [9, 5, 3, 2, 1])
        # The indexes of the known sums are 4 to 6, then 2 to 3, 1, and 0.
        told = ((None, levels[0][7]), (None, None), (levels[2][0], None), (None, levels[3][1]))
        self.assertEqual(paper_of(index_of(SMALL), read_question("mills"), MODULUS),
                         [(4, tuple(SMALL_LEAVES[4:7]), told)])

    def test_the_last_word_has_no_leaf_behind(self):
        self.assert_stretches(SMALL, "weir", [(7, 8)])

    def test_starts_that_several_words_fit(self):
        self.assert_stretches(SMALL, "mill*", [(2, 6)])
        self.assert_stretches(SMALL, "m*", [(2, 6)])
        self.assert_stretches(SMALL, "mills*", [(4, 6)])
        self.assert_stretches(SMALL, "w*", [(7, 8)])

    def test_words_that_are_not_in_the_index(self):
        # Ahead of all postings, between two, and behind all.
        self.assert_stretches(SMALL, "abc", [(2, 3)])
        self.assert_stretches(SMALL, "mil", [(2, 3)])
        self.assert_stretches(SMALL, "milla", [(4, 5)])
        self.assert_stretches(SMALL, "millsa*", [(5, 6)])
        self.assert_stretches(SMALL, "nil*", [(5, 6)])
        self.assert_stretches(SMALL, "zoo", [(8, 8)])
        self.assert_stretches(SMALL, "weirs*", [(8, 8)])

    def test_all_versions(self):
        self.assert_stretches(SMALL, "@", [(0, 3)])
        self.assert_stretches(SMALL, "-mill", [(0, 3), (2, 5)])
        self.assert_stretches(SMALL, "-abc", [(0, 3), (2, 3)])
        self.assert_stretches(SMALL, "-weir old | -old", [(0, 3), (5, 8), (7, 8)])

    def test_no_pattern_and_not_all_versions(self):
        self.assert_stretches(SMALL, "-@", [])

    def test_patterns_in_order_and_each_once(self):
        self.assert_stretches(SMALL, "weir mill", [(2, 5), (7, 8)])
        # Starts come ahead of words.
        self.assert_stretches(SMALL, "mill w* mill* | old", [(2, 6), (7, 8), (2, 5), (5, 8)])
        self.assert_stretches(SMALL, '"mill mill" <3 mill mill> mill', [(2, 5)])
        self.assert_stretches(SMALL, "-mill -mill", [(0, 3), (2, 5)])

    def test_places_only(self):
        changes = [(5, "b", ""), (9, "b", None), (7, "a", " -")]
        self.assert_stretches(changes, "@", [(0, 1)])
        self.assert_stretches(changes, "mill", [(1, 1)])
        self.assert_stretches(changes, "-mill", [(0, 1), (1, 1)])

    def test_one_leaf(self):
        self.assert_stretches([(5, "a", "")], "@", [(0, 0)])
        self.assert_stretches([(5, "a", "")], "mill", [(0, 0)])
        self.assertEqual(paper_of(index_of([(5, "a", "")]), ("all",), MODULUS), [(0, (("a", 5, None),), ())])

    def test_no_leaves(self):
        for index in (Index(()), index_of([(5, "a", None)])):
            for question in QUESTIONS:
                self.assertEqual(paper_of(index, question, MODULUS), [])

    def test_the_paper_is_new_each_time(self):
        index = index_of(SMALL)
        question = read_question("-mill")
        expected = paper_plainly(SMALL_LEAVES, question, MODULUS)
        paper = paper_of(index, question, MODULUS)
        paper.clear()
        self.assertEqual(paper_of(index, question, MODULUS), expected)
        self.assertEqual(leaves_of(index), SMALL_LEAVES)
        self.assertIsInstance(expected[0], tuple)
        self.assertIsInstance(paper_of(index, question, MODULUS)[0][1], tuple)
        self.assertIsInstance(paper_of(index, question, MODULUS)[0][2], tuple)

    def test_the_leaf_before_and_the_leaf_behind(self):
        chance = random.Random(113)
        seen = []
        for _ in range(150):
            index = index_of(made_changes(chance, chance.randrange(1, 12)))
            leaves = leaves_of(index)
            question = made_question(chance, 4)
            paper = paper_of(index, question, 97)
            for (first, shown, _), pattern in zip(paper[len(paper) - len(patterns_of(question)):], patterns_of(question)):
                words = index.words_for(pattern)
                of_words = [leaf for leaf in shown if len(leaf) == 5 and leaf[0] in words]
                self.assertEqual(of_words, [posting for word in words for posting in index.postings(word)])
                # There is always a place before.
                self.assertNotIn(shown[0], of_words)
                at_end = first + len(shown) == len(leaves)
                has_behind = len(shown) == len(of_words) + 2
                self.assertTrue(has_behind or at_end and len(shown) == len(of_words) + 1)
                seen.append((len(of_words) > 0, has_behind))
        self.assertEqual(len(set(seen)), 4)

    def test_against_going_through_all_leaves(self):
        chance = random.Random(114)
        needs = []
        for _ in range(60):
            endings = chance.choice([(), (("b", 1),)])
            changes = made_changes(chance, chance.randrange(1, 20))
            index = index_of(changes, endings)
            leaves = leaves_plainly(changes, endings)
            modulus = chance.choice([2, 97, MODULUS])
            levels = tree_plainly(leaves, modulus)
            for question in QUESTIONS + [made_question(chance, 8) for _ in range(4)]:
                paper = paper_of(index, question, modulus)
                self.assertEqual(paper, paper_plainly(leaves, question, modulus))
                self.assertEqual(len(paper), len(stretches_plainly(leaves, question)))
                for first, shown, told in paper:
                    self.assertEqual(list(shown), leaves[first:first + len(shown)])
                    self.assertEqual(len(told), len(levels) - 1)
                needs.append(matches_plainly((), question))
        self.assertGreater(needs.count(True), 200)
        self.assertGreater(needs.count(False), 200)
