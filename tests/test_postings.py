"""[i1]: places of versions, and postings."""

import random
import unittest

from making import made_changes
from plain import history_plainly, places_plainly, postings_plainly
from timeshelf.postings import places_of, postings_of


class Postings(unittest.TestCase):
    def test_no_version(self):
        self.assertEqual(places_of((), "a"), [])
        self.assertEqual(postings_of((), "a"), [])

    def test_one_version(self):
        history = ((5, None, ("old", "mill")),)
        self.assertEqual(places_of(history, "k"), [("k", 5, None)])
        self.assertEqual(postings_of(history, "k"), [("mill", "k", 5, None, (1,)), ("old", "k", 5, None, (0,))])

    def test_several_versions(self):
        history = ((0, 5, ("b", "a")), (5, 7, ("a",)), (100, None, ("b", "c", "a")))
        self.assertEqual(places_of(history, "k"), [("k", 0, 5), ("k", 5, 7), ("k", 100, None)])
        self.assertEqual(postings_of(history, "k"), [
            ("a", "k", 0, 5, (1,)), ("a", "k", 5, 7, (0,)), ("a", "k", 100, None, (2,)),
            ("b", "k", 0, 5, (0,)), ("b", "k", 100, None, (0,)), ("c", "k", 100, None, (1,))])

    def test_starts_are_in_the_order_of_numbers(self):
        history = tuple((start, start + 1, ("x",)) for start in (2, 9, 10, 100, 1000))
        self.assertEqual([place[1] for place in places_of(history, "k")], [2, 9, 10, 100, 1000])
        self.assertEqual([posting[2] for posting in postings_of(history, "k")], [2, 9, 10, 100, 1000])

    def test_words_are_in_the_order_of_strings(self):
        history = ((0, None, ("b", "a1", "9", "10", "a", "ab")),)
        self.assertEqual([posting[0] for posting in postings_of(history, "k")], ["10", "9", "a", "a1", "ab", "b"])

    def test_a_word_at_several_places(self):
        history = ((5, 9, ("a", "b", "a", "a", "b")),)
        self.assertEqual(postings_of(history, "k"), [("a", "k", 5, 9, (0, 2, 3)), ("b", "k", 5, 9, (1, 4))])
        long = ((5, 9, ("a",) * 200),)
        self.assertEqual(postings_of(long, "k"), [("a", "k", 5, 9, tuple(range(200)))])

    def test_documents_without_words(self):
        self.assertEqual(places_of(((5, 9, ()), (9, None, ("a",))), "k"), [("k", 5, 9), ("k", 9, None)])
        self.assertEqual(postings_of(((5, 9, ()), (9, None, ("a",))), "k"), [("a", "k", 9, None, (0,))])
        self.assertEqual(postings_of(((5, None, ()),), "k"), [])

    def test_the_lists_are_new_each_time(self):
        history = ((5, None, ("a",)),)
        places_of(history, "k").clear()
        postings_of(history, "k").clear()
        self.assertEqual(places_of(history, "k"), [("k", 5, None)])
        self.assertEqual(postings_of(history, "k"), [("a", "k", 5, None, (0,))])

    def test_made_histories(self):
        chance = random.Random(81)
        for _ in range(200):
            changes = made_changes(chance, chance.randrange(1, 25), keys=("a",))
            history = history_plainly(changes, (), "a")
            self.assertEqual(places_of(history, "a"), places_plainly(changes, ()))
            self.assertEqual(postings_of(history, "a"), postings_plainly(changes, ()))
