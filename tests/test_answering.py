"""[i3], [i4]: answers by places of versions and postings alone."""

import random
import unittest

from making import made_changes, made_question
from plain import answer_plainly, matches_plainly, places_plainly, postings_plainly
from timeshelf.answering import answer_by, needs_all
from timeshelf.questions import read_question


def postings(document, key="k", start=5, end=None):
    """The postings of one version with these words."""
    return [(word, key, start, end, tuple(at for at, other in enumerate(document) if other == word))
            for word in sorted(set(document))]


class NeedsAll(unittest.TestCase):
    def assert_needs(self, text, answer):
        self.assertIs(needs_all(read_question(text)), answer, text)

    def test_each_kind(self):
        self.assert_needs("a", False)
        self.assert_needs("a*", False)
        self.assert_needs('"a b"', False)
        self.assert_needs("<9 a a>", False)
        self.assert_needs("@", True)
        self.assert_needs("-a", True)
        self.assert_needs("-@", False)
        self.assert_needs("a b", False)
        self.assert_needs("a | b", False)

    def test_not_of_not(self):
        self.assert_needs("--a", False)
        self.assert_needs("---a", True)
        self.assert_needs("--@", True)

    def test_nested(self):
        self.assert_needs("a -b", False)
        self.assert_needs("-a -b", True)
        self.assert_needs("-a @", True)
        self.assert_needs("a | -b", True)
        self.assert_needs("a | b -c", False)
        self.assert_needs("-(a | b)", True)
        self.assert_needs("-(a | -b)", False)
        self.assert_needs("-(a -b) (c | @)", True)
        self.assert_needs("(a | -b) (c | -(d | @))", False)

    def test_made_questions(self):
        chance = random.Random(82)
        for _ in range(500):
            question = made_question(chance, 12)
            self.assertIs(needs_all(question), matches_plainly((), question), question)


class OneVersion(unittest.TestCase):
    def assert_answer(self, words, text, answer):
        document = tuple(words)
        for start, end, timeline in ((5, None, (5,)), (0, 7, (0, 7))):
            found = answer_by(read_question(text), [("k", start, end)], postings(document, "k", start, end))
            self.assertEqual(found, {"k": timeline} if answer else {}, (words, text))
        self.assertIs(matches_plainly(document, read_question(text)), answer)

    def test_rows_of_one_pattern(self):
        self.assert_answer("abc", "b", True)
        self.assert_answer("abc", "d", False)
        self.assert_answer(["mills"], "mill*", True)
        self.assert_answer(["mills"], "mill", False)
        self.assert_answer("", "a", False)

    def test_rows_of_more_patterns(self):
        self.assert_answer("xab", '"a b"', True)
        self.assert_answer("ba", '"a b"', False)
        self.assert_answer("ab", '"b a"', False)
        self.assert_answer("axb", '"a b"', False)
        self.assert_answer("abcdef", '"a b c d e f"', True)
        self.assert_answer("abcdxef", '"a b c d e f"', False)
        self.assert_answer("axaab", '"a a b"', True)

    def test_the_same_word_twice_in_a_row(self):
        self.assert_answer("a", '"a a"', False)
        self.assert_answer("aa", '"a a"', True)
        self.assert_answer("axa", '"a a"', False)
        self.assert_answer("axa", "<1 a a>", True)
        self.assert_answer("aa", "<9 a a a>", False)
        self.assert_answer("aba", '"a b a"', True)
        self.assert_answer("ab", "<9 a b a>", False)
        self.assert_answer(["ab"], "<9 a* ab>", False)
        self.assert_answer(["ab", "ab"], '"a* ab"', True)

    def test_exactly_the_gap_and_one_more(self):
        for gap in range(10):
            self.assert_answer("a" + "x" * gap + "b", f"<{gap} a b>", True)
            self.assert_answer("a" + "x" * (gap + 1) + "b", f"<{gap} a b>", False)
            self.assert_answer("a" + "x" * gap + "b" + "c", f"<{gap} a b c>", True)
            self.assert_answer("a" + "x" * gap + "bx" + "c", f"<{gap} a b c>", False)

    def test_a_later_first_place(self):
        self.assert_answer("axxaxb", "<1 a b>", True)
        self.assert_answer("axxaxxb", "<1 a b>", False)
        self.assert_answer("axbabc", '"a b c"', True)

    def test_the_last_places_of_the_document(self):
        self.assert_answer("xxxxxa", "a", True)
        self.assert_answer("xxxxab", "<9 a b>", True)
        self.assert_answer("xxxxab", "<9 a b x>", False)

    def test_starts_that_several_words_fit(self):
        self.assert_answer(["ab", "ac"], '"a* a*"', True)
        self.assert_answer(["ab", "x", "ac", "b"], '"a* b"', True)
        self.assert_answer(["ab", "b", "ac", "x"], '"ac* b"', False)
        self.assert_answer(["ab", "ac"], '"ac a*"', False)
        self.assert_answer(["ab", "ac", "abc"], '"a* ab*"', True)

    def test_not_within_and_and_or(self):
        self.assert_answer("ab", "a -c", True)
        self.assert_answer("ab", "a -b", False)
        self.assert_answer("ab", "c | -d", True)
        self.assert_answer("ab", "c | -a", False)
        self.assert_answer("ab", "-(a c) -(c | d)", True)
        self.assert_answer("ab", "--a", True)
        self.assert_answer("ab", "a --c", False)

    def test_all_and_the_empty_document(self):
        self.assert_answer("", "@", True)
        self.assert_answer("", "-@", False)
        self.assert_answer("", "-a", True)
        self.assert_answer("a", "@", True)

    def test_made_rows(self):
        chance = random.Random(83)
        answers = []
        for _ in range(1500):
            words = chance.sample(["a", "b", "ab", "ba", "abc", "0"], chance.randrange(1, 5))
            document = tuple(chance.choice(words) for _ in range(chance.randrange(12)))
            patterns = tuple((chance.choice(["word", "start"]), chance.choice(words)) for _ in range(chance.randrange(1, 5)))
            row = ("row", patterns, chance.randrange(4))
            found = answer_by(row, [("k", 5, 9)], postings(document, "k", 5, 9))
            self.assertEqual(found, {"k": (5, 9)} if matches_plainly(document, row) else {}, (document, row))
            answers.append(found)
        self.assertGreater(answers.count({}), 200)
        self.assertGreater(len(answers) - answers.count({}), 200)


class Versions(unittest.TestCase):
    def test_the_empty_lists(self):
        for text in ("a", "-a", "@", "a | -b", '"a b"'):
            self.assertEqual(answer_by(read_question(text), [], []), {})
            self.assertEqual(answer_by(read_question(text), [], postings("ab")), {})
        self.assertEqual(answer_by(read_question("a"), [("k", 5, None)], []), {})
        self.assertEqual(answer_by(read_question("-a"), [("k", 5, None)], []), {"k": (5,)})

    def test_places_that_are_left_out(self):
        told = postings("ab", "k", 1, 4) + postings("ac", "k", 6, None) + postings("a", "m", 0, None)
        places = [("k", 1, 4), ("k", 6, None), ("m", 0, None)]
        self.assertEqual(answer_by(read_question("a"), places, told), {"k": (1, 4, 6), "m": (0,)})
        self.assertEqual(answer_by(read_question("a"), places[1:], told), {"k": (6,), "m": (0,)})
        self.assertEqual(answer_by(read_question("a"), places[:2], told), {"k": (1, 4, 6)})
        self.assertEqual(answer_by(read_question("-b"), places[:1], told), {})
        self.assertEqual(answer_by(read_question("-c"), places[:2], told), {"k": (1, 4)})

    def test_postings_of_one_version_alone_count_for_it(self):
        told = postings("a", "k", 1, 4) + postings("b", "k", 4, None) + postings("b", "m", 1, 4)
        places = [("k", 1, 4), ("k", 4, None), ("m", 1, 4)]
        self.assertEqual(answer_by(read_question("a b"), places, told), {})
        self.assertEqual(answer_by(read_question("a"), places, told), {"k": (1, 4)})
        self.assertEqual(answer_by(read_question("b"), places, told), {"k": (4,), "m": (1, 4)})
        self.assertEqual(answer_by(read_question("a | b"), places, told), {"k": (1,), "m": (1, 4)})

    def test_neighbours_that_both_match(self):
        places = [("k", 1, 4), ("k", 4, 6), ("k", 8, 9)]
        self.assertEqual(answer_by(("all",), places, []), {"k": (1, 6, 8, 9)})

    def test_the_order_of_the_lists_does_not_matter(self):
        told = postings("ab", "k", 1, 4) + postings("ba", "k", 4, 6) + postings("ab", "m", 0, None)
        places = [("k", 1, 4), ("k", 4, 6), ("m", 0, None)]
        expected = answer_by(read_question('"a b"'), places, told)
        self.assertEqual(expected, {"k": (1, 4), "m": (0,)})
        self.assertEqual(answer_by(read_question('"a b"'), places[::-1], told[::-1]), expected)

    def test_the_arguments_are_not_modified(self):
        told = postings("ab", "k", 1, 4)
        places = [("k", 1, 4)]
        answer_by(read_question("a"), places, told)["x"] = (1,)
        self.assertEqual(told, postings("ab", "k", 1, 4))
        self.assertEqual(places, [("k", 1, 4)])
        self.assertEqual(answer_by(read_question("a"), places, told), {"k": (1, 4)})

    def test_made_changes(self):
        chance = random.Random(84)
        for _ in range(150):
            changes = made_changes(chance, chance.randrange(30))
            places = places_plainly(changes, ())
            told = postings_plainly(changes, ())
            for question in [made_question(chance, 8) for _ in range(8)]:
                expected = answer_plainly(changes, (), question)
                self.assertEqual(answer_by(question, places, told), expected, (changes, question))
                chance.shuffle(told)
                chance.shuffle(places)
                self.assertEqual(answer_by(question, places, told), expected, (changes, question))
