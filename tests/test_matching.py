"""[q1], [q3]: words that fit, standings of rows, and what a document matches."""

import itertools
import random
import unittest

from making import made_question, made_row
from plain import matches_plainly, standings_plainly
from timeshelf.errors import TooMany
from timeshelf.matching import fits, matches, standings
from timeshelf.questions import read_question

TEXTS = ["a", "b", "ab", "ba", "abc", "0", "7", "12", "abcdefghij12", "c"]


def row(words, gap):
    return ("row", tuple(("word", word) for word in words), gap)


class Patterns(unittest.TestCase):
    def test_a_word(self):
        self.assertIs(fits("mill", ("word", "mill")), True)
        self.assertIs(fits("mills", ("word", "mill")), False)
        self.assertIs(fits("mil", ("word", "mill")), False)
        self.assertIs(fits("7", ("word", "7")), True)

    def test_a_start(self):
        self.assertIs(fits("mill", ("start", "mill")), True)
        self.assertIs(fits("mills", ("start", "mill")), True)
        self.assertIs(fits("mil", ("start", "mill")), False)
        self.assertIs(fits("amill", ("start", "mill")), False)
        self.assertIs(fits("abcdefghij12", ("start", "a")), True)


class Standings(unittest.TestCase):
    def test_example_of_the_interface(self):
        self.assertEqual(standings(("a", "b", "a", "b"), row("ab", 1)), [(0, 1), (2, 3)])

    def test_one_pattern(self):
        for gap in (0, 1, 9):
            self.assertEqual(standings(("a", "b", "a"), row("a", gap)), [(0,), (2,)])
            self.assertEqual(standings(("a", "b", "a"), row("c", gap)), [])

    def test_the_empty_document(self):
        self.assertEqual(standings((), row("a", 0)), [])
        self.assertEqual(standings((), row("abc", 9)), [])

    def test_exactly_the_gap_and_one_more(self):
        for gap in range(10):
            at_the_gap = ("a",) + ("x",) * gap + ("b",)
            self.assertEqual(standings(at_the_gap, row("ab", gap)), [(0, gap + 1)])
            self.assertEqual(standings(("a", "x") + at_the_gap[1:], row("ab", gap)), [])

    def test_the_gap_is_shared_by_the_whole_row(self):
        document = ("a", "x", "b", "x", "c")
        self.assertEqual(standings(document, row("abc", 1)), [])
        self.assertEqual(standings(document, row("abc", 2)), [(0, 2, 4)])
        self.assertEqual(standings(("a", "b", "x", "x", "c"), row("abc", 2)), [(0, 1, 4)])
        self.assertEqual(standings(("a", "b", "x", "x", "c"), row("abc", 1)), [])

    def test_the_order_of_the_patterns_counts(self):
        self.assertEqual(standings(("b", "a"), row("ab", 9)), [])
        self.assertEqual(standings(("b", "a", "b"), row("ab", 9)), [(1, 2)])

    def test_the_same_pattern_twice(self):
        self.assertEqual(standings(("a",), row("aa", 9)), [])
        self.assertEqual(standings(("a", "a"), row("aa", 0)), [(0, 1)])
        self.assertEqual(standings(("a", "a", "a"), row("aa", 0)), [(0, 1), (1, 2)])
        self.assertEqual(standings(("a", "a", "a"), row("aa", 1)), [(0, 1), (0, 2), (1, 2)])

    def test_a_word_that_fits_two_patterns(self):
        question = ("row", (("start", "a"), ("word", "ab")), 1)
        self.assertEqual(standings(("ab",), question), [])
        self.assertEqual(standings(("ab", "ab", "a", "ab"), question), [(0, 1), (1, 3), (2, 3)])

    def test_a_later_first_place_is_closer(self):
        self.assertEqual(standings(("a", "a", "x", "b"), row("ab", 1)), [(1, 3)])

    def test_sorted(self):
        document = ("a", "a", "b", "b", "c")
        expected = [(0, 2, 4), (0, 3, 4), (1, 2, 4), (1, 3, 4)]
        self.assertEqual(standings(document, row("abc", 9)), expected)

    def test_against_all_rows_of_places(self):
        chance = random.Random(16)
        for _ in range(1500):
            words = chance.sample(TEXTS, chance.randrange(1, 6))
            document = tuple(chance.choice(words) for _ in range(chance.randrange(10)))
            question = made_row(chance)
            self.assertEqual(standings(document, question), standings_plainly(document, question))

    def test_long_rows_of_alike_words(self):
        for gap in range(10):
            document = ("a", "b", "a", "a", "b", "a", "a", "a", "b")
            for words in ("aaaaaa", "abab", "aab", "baab"):
                question = row(words, gap)
                self.assertEqual(standings(document, question), standings_plainly(document, question))

    def test_the_list_is_new_each_time(self):
        standings(("a",), row("a", 0)).append("b")
        self.assertEqual(standings(("a",), row("a", 0)), [(0,)])


class Many(unittest.TestCase):
    def assert_too_many(self, document, question):
        with self.assertRaises(TooMany) as caught:
            standings(document, question)
        self.assertEqual(caught.exception.limit, 500)
        self.assertIs(matches(document, question), True)

    def test_exactly_500_and_more(self):
        # Pairs of places that are up to 5 apart, among 103 places: 102 + 101 + 100 + 99 + 98.
        found = standings(("a",) * 103, row("aa", 4))
        self.assertEqual(len(found), 500)
        self.assertEqual(found, standings_plainly(("a",) * 103, row("aa", 4)))
        self.assert_too_many(("a",) * 103 + ("x",) * 5 + ("a", "a"), row("aa", 4))
        self.assert_too_many(("a",) * 104, row("aa", 4))

    def test_500_and_501_of_one_place(self):
        self.assertEqual(standings(("a",) * 500, row("a", 0)), [(at,) for at in range(500)])
        self.assert_too_many(("a",) * 501, row("a", 0))

    def test_the_greatest_number(self):
        self.assert_too_many(("a",) * 200, row("aaaaaa", 9))

    def test_many_beginnings_with_few_standings(self):
        document = ("a",) * 190
        self.assertEqual(standings(document, row("aaaaab", 9)), [])
        self.assertIs(matches(document, row("aaaaab", 9)), False)
        found = standings(document + ("b",), row("aaab", 9))
        self.assertEqual(found, [places + (190,) for places in itertools.combinations(range(178, 190), 3)])

    def test_exactly_500_of_longer_rows(self):
        # Three of 12 places: 220. Three of 10: 120. Three of 4: 4.
        parts = [("c",) + ("a",) * 12 + ("b",) + ("x",) * 12, ("c",) + ("a",) * 10 + ("b",) + ("x",) * 12]
        document = parts[0] + parts[1] + parts[1]
        self.assertEqual(len(standings(document, row("caaab", 9))), 460)
        four = ("c",) + ("a",) * 4 + ("b",) + ("x",) * 12
        self.assertEqual(len(standings(document + four * 10, row("caaab", 9))), 500)
        self.assert_too_many(document + four * 10 + ("c", "a", "a", "a", "b"), row("caaab", 9))


class Matching(unittest.TestCase):
    def assert_matches(self, words, text, answer):
        self.assertIs(matches(tuple(words), read_question(text)), answer, (words, text))

    def test_example_of_the_interface(self):
        self.assert_matches("ab", "-a | b", True)

    def test_rows(self):
        self.assert_matches("ab", "a", True)
        self.assert_matches("ab", "c", False)
        self.assert_matches(["mills"], "mill*", True)
        self.assert_matches(["mills"], "mill", False)
        self.assert_matches("ab", '"a b"', True)
        self.assert_matches("ba", '"a b"', False)
        self.assert_matches("axb", '"a b"', False)
        self.assert_matches("axb", "<1 a b>", True)
        self.assert_matches("axxb", "<1 a b>", False)
        self.assert_matches("axxab", '"a b"', True)

    def test_all(self):
        self.assert_matches("", "@", True)
        self.assert_matches("a", "@", True)

    def test_not(self):
        self.assert_matches("a", "-a", False)
        self.assert_matches("a", "-b", True)
        self.assert_matches("a", "--a", True)
        self.assert_matches("a", "-@", False)

    def test_and(self):
        self.assert_matches("ab", "a b", True)
        self.assert_matches("ba", "a b", True)
        self.assert_matches("ab", "a b c", False)
        self.assert_matches("ab", "c a b", False)

    def test_or(self):
        self.assert_matches("a", "a | b", True)
        self.assert_matches("b", "a | b", True)
        self.assert_matches("c", "a | b", False)
        self.assert_matches("c", "a | b | c", True)

    def test_the_empty_document(self):
        for text, answer in (("a", False), ("a*", False), ("-a", True), ("@", True), ("-@", False),
                             ("a | -b", True), ("a -b", False), ('-"a b" @', True)):
            self.assert_matches("", text, answer)

    def test_nested(self):
        text = "-(a b | c) (d | -e)"
        self.assert_matches("ad", text, True)
        self.assert_matches("abd", text, False)
        self.assert_matches("c", text, False)
        self.assert_matches("e", text, False)
        self.assert_matches("de", text, True)
        self.assert_matches("", text, True)

    def test_made_questions(self):
        chance = random.Random(17)
        answers = []
        for _ in range(1500):
            document = tuple(chance.choice(TEXTS) for _ in range(chance.randrange(9)))
            question = made_question(chance, 12)
            answer = matches(document, question)
            self.assertIs(answer, matches_plainly(document, question), (document, question))
            answers.append(answer)
        self.assertGreater(answers.count(True), 300)
        self.assertGreater(answers.count(False), 300)
