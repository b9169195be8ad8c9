"""[w1], [w2]: the words of a text, endings and cut words; [c1], [c2] of texts."""

import random
import re
import unittest

from timeshelf.words import cut, document_of, words_of

CHARACTERS = "\n" + "".join(chr(code) for code in range(32, 127) if code != 37)


def cut_plainly(word, endings):
    """The cut word: the shortest of what the endings leave, or the word."""
    left = [word]
    for ending, least in endings:
        stem = word[:len(word) - len(ending)]
        if stem + ending == word and len(stem) >= least:
            left.append(stem)
    return min(left, key=len)


class Runs(unittest.TestCase):
    def test_ordinary_texts(self):
        self.assertEqual(words_of("the old mill"), ["the", "old", "mill"])
        self.assertEqual(words_of("a-b_c.d"), ["a", "b", "c", "d"])
        self.assertEqual(words_of("word"), ["word"])

    def test_other_characters_at_the_edges(self):
        self.assertEqual(words_of("  a b"), ["a", "b"])
        self.assertEqual(words_of("a b..."), ["a", "b"])
        self.assertEqual(words_of("(a)"), ["a"])
        self.assertEqual(words_of("\na\n"), ["a"])

    def test_texts_without_words(self):
        self.assertEqual(words_of(""), [])
        self.assertEqual(words_of(" "), [])
        self.assertEqual(words_of("\n"), [])
        self.assertEqual(words_of("-- ?! \n *"), [])

    def test_newlines_separate(self):
        self.assertEqual(words_of("a\nb\n\nc"), ["a", "b", "c"])

    def test_capital_letters_become_small(self):
        self.assertEqual(words_of("Old MILLS aBc Z"), ["old", "mills", "abc", "z"])

    def test_digits_are_of_a_run(self):
        self.assertEqual(words_of("7 a1 1a 0x9"), ["7", "a1", "1a", "0x9"])

    def test_runs_of_12_13_and_16_characters(self):
        self.assertEqual(words_of("abcdefghijkl"), ["abcdefghijkl"])
        self.assertEqual(words_of("abcdefghijklm"), ["abcdefghijkl"])
        self.assertEqual(words_of("abcdefghijklmnop"), ["abcdefghijkl"])
        self.assertEqual(words_of("x ABCDEFGHIJKLMNOP y"), ["x", "abcdefghijkl", "y"])
        self.assertEqual(words_of("12345678901234567890123456789"), ["123456789012"])

    def test_every_character(self):
        for character in CHARACTERS:
            found = words_of("a" + character + "b")
            if re.fullmatch("[a-zA-Z0-9]", character):
                self.assertEqual(found, ["a" + character.lower() + "b"])
            else:
                self.assertEqual(found, ["a", "b"], repr(character))

    def test_long_texts(self):
        self.assertEqual(words_of("a " * 200), ["a"] * 200)
        self.assertEqual(words_of("A" * 400), ["a" * 12])

    def test_against_a_pattern(self):
        chance = random.Random(5)
        for _ in range(500):
            text = "".join(chance.choice(CHARACTERS) for _ in range(chance.randrange(60)))
            runs = re.findall("[a-z0-9]+", text.lower())
            self.assertEqual(words_of(text), [run[:12] for run in runs])

    def test_the_list_is_new_each_time(self):
        words_of("a b").append("c")
        self.assertEqual(words_of("a b"), ["a", "b"])


class Cut(unittest.TestCase):
    def test_without_a_fitting_ending_the_word_stays(self):
        self.assertEqual(cut("mill", ()), "mill")
        self.assertEqual(cut("mill", (("s", 1), ("x", 1))), "mill")
        self.assertEqual(cut("slow", (("s", 1),)), "slow")

    def test_the_ending_is_taken_away(self):
        self.assertEqual(cut("mills", (("s", 3),)), "mill")
        self.assertEqual(cut("mills2", (("2", 3),)), "mills")
        self.assertEqual(cut("mill", (("mill", 1), ("ill", 1))), "m")

    def test_exactly_the_least_number_and_one_fewer(self):
        self.assertEqual(cut("abcs", (("s", 3),)), "abc")
        self.assertEqual(cut("abs", (("s", 3),)), "abs")
        self.assertEqual(cut("abcdefghing", (("ing", 9),)), "abcdefghing")
        self.assertEqual(cut("abcdefghiing", (("ing", 9),)), "abcdefghi")
        self.assertEqual(cut("as", (("s", 1),)), "a")

    def test_a_word_that_is_the_ending(self):
        self.assertEqual(cut("s", (("s", 1),)), "s")
        self.assertEqual(cut("ness", (("ness", 1),)), "ness")
        self.assertEqual(cut("ness", (("ness", 1), ("s", 3))), "nes")

    def test_an_ending_longer_than_the_word(self):
        self.assertEqual(cut("es", (("ness", 1),)), "es")

    def test_the_longest_is_taken_in_whatever_order(self):
        self.assertEqual(cut("witnesses", (("es", 1), ("s", 1))), "witness")
        self.assertEqual(cut("witnesses", (("s", 1), ("es", 1))), "witness")
        self.assertEqual(cut("witnesses", (("s", 1), ("sses", 1), ("es", 1))), "witne")

    def test_a_shorter_one_if_too_little_stands_before_the_longest(self):
        self.assertEqual(cut("boxes", (("es", 4), ("s", 3))), "boxe")
        self.assertEqual(cut("boxes", (("s", 3), ("es", 4))), "boxe")
        self.assertEqual(cut("boxes", (("s", 3), ("es", 3))), "box")

    def test_one_ending_told_twice(self):
        self.assertEqual(cut("abcs", (("s", 3), ("s", 5))), "abc")
        self.assertEqual(cut("abcs", (("s", 5), ("s", 3))), "abc")
        self.assertEqual(cut("abs", (("s", 5), ("s", 3))), "abs")

    def test_only_one_is_taken_away_and_once(self):
        self.assertEqual(cut("asss", (("s", 1),)), "ass")
        self.assertEqual(cut("goings", (("s", 1), ("ing", 1))), "going")
        self.assertEqual(cut("millss", (("s", 1), ("l", 1))), "mills")

    def test_against_the_plain_words(self):
        chance = random.Random(6)
        for _ in range(2000):
            word = "".join(chance.choice("ab1") for _ in range(chance.randrange(1, 13)))
            endings = tuple(
                ("".join(chance.choice("ab1") for _ in range(chance.randrange(1, 5))), chance.randrange(1, 10))
                for _ in range(chance.randrange(6)))
            self.assertEqual(cut(word, endings), cut_plainly(word, endings), (word, endings))


class Documents(unittest.TestCase):
    def test_example_of_the_interface(self):
        document = document_of("Old Mills, by the-weir!", (("s", 3),))
        self.assertEqual(document, ("old", "mill", "by", "the", "weir"))

    def test_without_words_or_endings(self):
        self.assertEqual(document_of("", ()), ())
        self.assertEqual(document_of("", (("s", 1),)), ())
        self.assertEqual(document_of("Mills", ()), ("mills",))

    def test_each_word_is_cut(self):
        self.assertEqual(document_of("as bs AS ass s", (("s", 1),)), ("a", "b", "a", "as", "s"))

    def test_runs_are_shortened_before_they_are_cut(self):
        self.assertEqual(document_of("abcdefghijks12345", (("s", 1),)), ("abcdefghijk",))
        self.assertEqual(document_of("abcdefghijkls", (("s", 1),)), ("abcdefghijkl",))

    def test_it_is_a_tuple_of_words(self):
        document = document_of("A b? " * 80, (("b", 1),))
        self.assertIsInstance(document, tuple)
        self.assertEqual(document, ("a", "b") * 80)
