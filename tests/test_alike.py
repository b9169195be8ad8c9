"""[a1], [a2]: simple questions, the candidates of two of them, and the least witness."""

import itertools
import random
import unittest

from plain import fits_plainly, matches_plainly
from timeshelf.alike import candidates, is_simple, least_witness
from timeshelf.errors import TooMany
from timeshelf.questions import read_question

IN_ORDER = "0123456789abcdefghijklmnopqrstuvwxyz"


def simple_row(kind, word, gap=0):
    return ("row", ((kind, word),), gap)


def either(kind, words):
    return ("or", tuple(simple_row(kind, word) for word in words))


def patterns_plainly(question):
    if question[0] == "row":
        return list(question[1])
    if question[0] == "all":
        return []
    parts = [question[1]] if question[0] == "not" else question[1]
    return [pattern for part in parts for pattern in patterns_plainly(part)]


def candidates_plainly(one, other):
    patterns = patterns_plainly(one) + patterns_plainly(other)
    told = [word for _, word in patterns]
    found = list(told)
    for word in told:
        for letter in IN_ORDER if len(word) < 12 else "":
            if word + letter not in told and not [1 for longer in told if longer[:len(word) + 1] == word + letter]:
                found.append(word + letter)
                break
    for letter in IN_ORDER:
        if not [1 for pattern in patterns if fits_plainly(letter, pattern) or pattern[1][0] == letter]:
            found.append(letter)
            break
    return sorted(set(found))


def least_plainly(one, other):
    """All documents of candidates, rising and different, tried one by one."""
    words = candidates_plainly(one, other)
    for many in range(len(words) + 1):
        for document in itertools.combinations(words, many):
            if matches_plainly(document, one) != matches_plainly(document, other):
                return document
    return None


def made_simple(chance, words, left):
    if left < 3 or chance.random() < 0.2:
        if left > 1 and chance.random() < 0.4:
            return ("not", made_simple(chance, words, left - 1))
        if chance.random() < 0.08:
            return ("all",)
        return simple_row(chance.choice(["word", "start"]), chance.choice(words), chance.choice([0, 0, 3]))
    first = made_simple(chance, words, (left - 1) // 2)
    other = made_simple(chance, words, (left - 1) // 2)
    return (chance.choice(["and", "or"]), (first, other))


def told_otherwise(chance, question):
    """A question that is alike and written otherwise."""
    if question[0] in ("and", "or"):
        parts = [told_otherwise(chance, part) for part in question[1]]
        chance.shuffle(parts)
        if chance.random() < 0.3:
            parts.append(parts[0])
        if chance.random() < 0.4:
            opposite = "or" if question[0] == "and" else "and"
            return ("not", (opposite, tuple(("not", part) for part in parts)))
        return (question[0], tuple(parts))
    if question[0] == "not":
        return ("not", told_otherwise(chance, question[1]))
    if question[0] == "row" and chance.random() < 0.3:
        return ("or", (question, ("and", (question, ("all",)))))
    if chance.random() < 0.3:
        return ("not", ("not", question))
    return question


class Simple(unittest.TestCase):
    def assert_simple(self, text, answer):
        self.assertIs(is_simple(read_question(text)), answer, text)

    def test_rows(self):
        self.assert_simple("a", True)
        self.assert_simple("a*", True)
        self.assert_simple('"a"', True)
        self.assert_simple("<9 a*>", True)
        self.assert_simple('"a b"', False)
        self.assert_simple("<3 a a>", False)
        self.assert_simple('"a b c d e f"', False)

    def test_others(self):
        self.assert_simple("@", True)
        self.assert_simple("-@", True)
        self.assert_simple("-a", True)
        self.assert_simple('-"a b"', False)
        self.assert_simple("a b c", True)
        self.assert_simple('a "b b" c', False)
        self.assert_simple('a | "b b"', False)

    def test_nested(self):
        self.assert_simple("-(a | b (c* | -(d | @)))", True)
        self.assert_simple('-(a | b (c* | -(d | "e a")))', False)


class Candidates(unittest.TestCase):
    def assert_candidates(self, one, other, expected):
        found = candidates(read_question(one), read_question(other))
        self.assertEqual(found, expected)
        self.assertEqual(found, candidates_plainly(read_question(one), read_question(other)))
        self.assertEqual(candidates(read_question(other), read_question(one)), expected)

    def test_no_patterns(self):
        self.assert_candidates("@", "-@", ["0"])

    def test_one_pattern(self):
        self.assert_candidates("a", "a", ["0", "a", "a0"])
        self.assert_candidates("a*", "@", ["0", "a", "a0"])
        self.assert_candidates("0", "@", ["0", "00", "1"])

    def test_a_pattern_told_twice(self):
        self.assert_candidates("a a", "-a | a", ["0", "a", "a0"])
        self.assert_candidates("a a*", "<5 a>", ["0", "a", "a0"])

    def test_patterns_that_begin_one_another(self):
        self.assert_candidates("a*", "a0", ["0", "a", "a0", "a00", "a1"])
        self.assert_candidates("a", "a0 a1 a2", ["0", "a", "a0", "a00", "a1", "a10", "a2", "a20", "a3"])
        self.assert_candidates("a", "a0bcd", ["0", "a", "a0bcd", "a0bcd0", "a1"])
        self.assert_candidates("a*", "ab* | abc", ["0", "a", "a0", "ab", "ab0", "abc", "abc0"])

    def test_the_digits_come_before_the_letters(self):
        nine = " | ".join("a" + digit for digit in "012345678")
        self.assertIn("a9", candidates(read_question("a"), read_question(nine)))
        ten = " | ".join("a" + digit for digit in "0123456789")
        self.assertIn("aa", candidates(read_question("a"), read_question(ten)))
        self.assertNotIn("ab", candidates(read_question("a"), read_question(ten)))

    def test_words_of_11_and_of_12_characters(self):
        self.assert_candidates("abcdefghijk", "@", ["0", "abcdefghijk", "abcdefghijk0"])
        self.assert_candidates("abcdefghijk", "abcdefghijk0", ["0", "abcdefghijk", "abcdefghijk0", "abcdefghijk1"])
        self.assert_candidates("abcdefghijkl*", "@", ["0", "abcdefghijkl"])

    def test_the_word_that_has_to_do_with_no_pattern(self):
        self.assert_candidates("0 | 1", "3", ["0", "00", "1", "10", "2", "3", "30"])
        self.assert_candidates("012 | 1", "2*", ["012", "0120", "1", "10", "2", "20", "3"])
        ten = " | ".join("0123456789")
        self.assertEqual([word for word in candidates(read_question(ten), ("all",)) if len(word) == 1],
                         list("0123456789a"))

    def test_all_of_0_to_z(self):
        for kinds in (("word", "word"), ("start", "start"), ("word", "start")):
            one = either(kinds[0], IN_ORDER[:20])
            other = either(kinds[1], IN_ORDER[20:])
            expected = sorted(list(IN_ORDER) + [letter + "0" for letter in IN_ORDER])
            self.assertEqual(candidates(one, other), expected)
        one = either("word", IN_ORDER[:35])
        expected = sorted(list(IN_ORDER) + [letter + "0" for letter in IN_ORDER[:35]])
        self.assertEqual(candidates(one, one), expected)
        # Each of them begins a longer word.
        longer = either("start", [letter + "x" for letter in IN_ORDER])
        expected = sorted([letter + "x" for letter in IN_ORDER] + [letter + "x0" for letter in IN_ORDER])
        self.assertEqual(candidates(longer, ("all",)), expected)

    def test_no_character_is_left_behind_a_word(self):
        every = either("word", ["a" + letter for letter in IN_ORDER])
        found = candidates(every, simple_row("start", "a"))
        expected = ["0", "a"] + ["a" + letter for letter in IN_ORDER] + ["a" + letter + "0" for letter in IN_ORDER]
        self.assertEqual(found, sorted(expected))

    def test_made_questions(self):
        chance = random.Random(64)
        words = ["a", "a0", "a01", "ab", "b", "0", "00", "1", "abcdefghijk", "abcdefghijkl", "abcdefghijk0"]
        for _ in range(800):
            chosen = chance.sample(words, 6)
            one = made_simple(chance, chosen, chance.randrange(1, 12))
            other = made_simple(chance, chosen, chance.randrange(1, 12))
            self.assertEqual(candidates(one, other), candidates_plainly(one, other), (one, other))

    def test_the_list_is_new_each_time(self):
        candidates(("all",), ("all",)).append("b")
        self.assertEqual(candidates(("all",), ("all",)), ["0"])


class Witnesses(unittest.TestCase):
    def assert_least(self, one, other, expected):
        for first, second in ((one, other), (other, one)):
            found = least_witness(read_question(first), read_question(second), 40)
            self.assertEqual(found, expected, (first, second))

    def test_examples_of_the_interface(self):
        self.assertIsNone(least_witness(read_question("a* b"), read_question("b (a | a*)"), 10))
        self.assertEqual(least_witness(read_question("a*"), read_question("a"), 10), ("a0",))

    def test_the_empty_document(self):
        self.assert_least("@", "-@", ())
        self.assert_least("a", "-a", ())
        self.assert_least("a", "@", ())
        self.assert_least("a", "-b", ())

    def test_one_word(self):
        self.assert_least("a", "b", ("a",))
        self.assert_least("a", "-@", ("a",))
        self.assert_least("a | b", "a", ("b",))
        self.assert_least("a b | c", "a b", ("c",))
        self.assert_least("a* -a", "a*", ("a",))
        self.assert_least("a*", "ab*", ("a",))
        self.assert_least("a* | b", "a | ab* | b", ("a0",))

    def test_several_words(self):
        self.assert_least("a b", "-@", ("a", "b"))
        self.assert_least("c b a", "-@", ("a", "b", "c"))
        self.assert_least("a b c", "b a d", ("a", "b", "c"))
        self.assert_least("a* -a b", "-@", ("a0", "b"))
        self.assert_least("b d a c", "-@", ("a", "b", "c", "d"))

    def test_the_fewest_words_come_first(self):
        self.assert_least("a b c | d e", "-@", ("d", "e"))
        self.assert_least("a b | y", "-@", ("y",))
        self.assert_least("a* a0* b | c d", "-@", ("a0", "b"))

    def test_the_first_of_several_in_the_order_of_tuples(self):
        self.assert_least("b c | a d", "-@", ("a", "d"))
        self.assert_least("a d | a c | b c", "-@", ("a", "c"))
        self.assert_least("z | 9 | a", "-@", ("9",))
        self.assert_least("b* c", "-@", ("b", "c"))

    def test_one_word_for_several_patterns(self):
        self.assert_least("a* ab* abc", "-@", ("abc",))
        self.assert_least("a* ab* b", "a* b", ("a", "b"))
        self.assert_least("ab* ac* a*", "-@", ("ab", "ac"))

    def test_alike_though_written_otherwise(self):
        for one, other in (
            ("a", "a"), ("a", "<7 a>"), ("a", "--a"), ("a b", "b a"), ("a | b", "b | a | b"), ("@", "a | -a"),
            ("-@", "a -a"), ("-(a b)", "-a | -b"), ("-(a | b)", "-a -b"), ("a (b | c)", "a b | a c"),
            ("a | b c", "(a | b) (a | c)"), ("a ab*", "ab* a"), ("a*", "a* | ab"), ("a*", "a* | a | ab* | abc"),
            ("ab a*", "ab"), ("-a* ab", "-@"), ("a* | -ab", "@"), ("@ a", "a"), ("abcdefghijkl*", "abcdefghijkl"),
        ):
            self.assert_least(one, other, None)

    def test_not_alike_though_nearly(self):
        self.assert_least("abcdefghijk*", "abcdefghijk", ("abcdefghijk0",))
        self.assert_least("abcdefghijk*", "abcdefghijk | abcdefghijk0", ("abcdefghijk1",))
        self.assert_least("a (b | c)", "a b | c", ("c",))

    def test_all_of_0_to_z_as_words_and_as_starts(self):
        words = either("word", IN_ORDER)
        starts = either("start", IN_ORDER)
        self.assertEqual(least_witness(words, starts, 72), ("00",))
        self.assertIsNone(least_witness(starts, starts, 72))
        self.assertIsNone(least_witness(words, ("or", words[1][::-1]), 72))
        self.assertEqual(least_witness(starts, either("start", IN_ORDER[:35]), 72), ("z",))
        together = ("and", words[1])
        self.assertIsNone(least_witness(together, ("not", ("or", tuple(("not", part) for part in words[1]))), 72))
        self.assertEqual(least_witness(together, ("not", ("all",)), 72), tuple(IN_ORDER))

    def test_exactly_the_most_candidates_and_one_more(self):
        one = read_question("a*")
        other = read_question("a | b")
        many = len(candidates(one, other))
        self.assertEqual(many, 5)
        self.assertEqual(least_witness(one, other, many), ("a0",))
        self.assertEqual(least_witness(one, other, many + 1), ("a0",))
        for most in (many - 1, 1, 0):
            with self.assertRaises(TooMany) as caught:
                least_witness(one, other, most)
            self.assertEqual(caught.exception.limit, most)

    def test_too_many_though_they_are_the_same(self):
        with self.assertRaises(TooMany) as caught:
            least_witness(read_question("a"), read_question("a"), 2)
        self.assertEqual(caught.exception.limit, 2)
        with self.assertRaises(TooMany):
            least_witness(("all",), ("all",), 0)
        self.assertIsNone(least_witness(("all",), ("all",), 1))

    def test_made_questions(self):
        chance = random.Random(65)
        lengths = []
        for _ in range(500):
            words = chance.sample(["a", "a0", "a01", "ab", "b", "0", "00", "1", "abcdefghijk", "abcdefghijkl"], 4)
            one = made_simple(chance, words, chance.randrange(1, 16))
            other = made_simple(chance, words, chance.randrange(1, 16))
            if chance.random() < 0.4:
                other = ("and", (one, other))
            expected = least_plainly(one, other)
            self.assertEqual(least_witness(one, other, 30), expected, (one, other))
            lengths.append(None if expected is None else len(expected))
        self.assertGreater(lengths.count(None), 20)
        for many in (0, 1, 2):
            self.assertGreater(lengths.count(many), 20)
        self.assertGreater(max(length for length in lengths if length is not None), 2)

    def test_made_questions_that_are_alike(self):
        chance = random.Random(66)
        for _ in range(300):
            words = chance.sample(["a", "a0", "a01", "ab", "b", "0", "00", "1", "abcdefghijk", "abcdefghijkl"], 6)
            one = made_simple(chance, words, chance.randrange(1, 24))
            other = told_otherwise(chance, one)
            self.assertIsNone(least_witness(one, other, 30), (one, other))

    def test_without_a_witness_no_document_tells_them_apart(self):
        chance = random.Random(67)
        words = ["a", "a0", "ab", "b", "0"]
        texts = words + ["a00", "abc", "a1", "bb", "01", "z", "c", "a0000"]
        alike = 0
        for _ in range(1500):
            one = made_simple(chance, words, 6)
            other = made_simple(chance, words, 6)
            if least_witness(one, other, 30) is None:
                alike += 1
                for _ in range(60):
                    document = tuple(chance.choice(texts) for _ in range(chance.randrange(6)))
                    self.assertEqual(matches_plainly(document, one), matches_plainly(document, other), (one, other))
        self.assertGreater(alike, 20)
