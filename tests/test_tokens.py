"""[q4]: the tokens of a text of a question."""

import random
import re
import unittest

from timeshelf.tokens import tokens

SIGNS = '*"<>()|-@'
SMALL = "abcdefghijklmnopqrstuvwxyz0123456789"
CHARACTERS = "\n" + "".join(chr(code) for code in range(32, 127) if code != 37)


def tokens_plainly(text):
    """The tokens by a pattern: a run with its star, or any other character but a space."""
    found = []
    for run, star, other in re.findall("([a-z0-9]+)([*]?)|([^ ])", text):
        if other:
            found.append(("sign" if other in SIGNS else "bad", other))
        elif len(run) > 12:
            found.append(("bad", run))
            found.extend([("sign", "*")] if star else [])
        else:
            found.append(("start" if star else "word", run))
    return found


class Tokens(unittest.TestCase):
    def test_nothing(self):
        self.assertEqual(tokens(""), [])
        self.assertEqual(tokens(" "), [])
        self.assertEqual(tokens("     "), [])

    def test_every_sign(self):
        for sign in SIGNS:
            self.assertEqual(tokens(sign), [("sign", sign)])
            self.assertEqual(tokens(" " + sign + sign), [("sign", sign), ("sign", sign)])
            self.assertEqual(tokens(sign + "a"), [("sign", sign), ("word", "a")])

    def test_a_sign_ends_a_word(self):
        for sign in SIGNS.replace("*", ""):
            self.assertEqual(tokens("a" + sign + "b"), [("word", "a"), ("sign", sign), ("word", "b")])

    def test_words_of_1_12_and_13_characters(self):
        self.assertEqual(tokens("a"), [("word", "a")])
        self.assertEqual(tokens("7"), [("word", "7")])
        self.assertEqual(tokens("abcdefghij12"), [("word", "abcdefghij12")])
        self.assertEqual(tokens("abcdefghij123"), [("bad", "abcdefghij123")])
        self.assertEqual(tokens("a" * 3000), [("bad", "a" * 3000)])

    def test_every_letter_and_digit(self):
        for letter in SMALL:
            self.assertEqual(tokens(letter), [("word", letter)])
            self.assertEqual(tokens("a" + letter + "b"), [("word", "a" + letter + "b")])

    def test_a_star_directly_behind_a_word(self):
        self.assertEqual(tokens("mill*"), [("start", "mill")])
        self.assertEqual(tokens("4*"), [("start", "4")])
        self.assertEqual(tokens("abcdefghij12*"), [("start", "abcdefghij12")])
        self.assertEqual(tokens("a*b*c"), [("start", "a"), ("start", "b"), ("word", "c")])

    def test_a_star_elsewhere(self):
        self.assertEqual(tokens("mill *"), [("word", "mill"), ("sign", "*")])
        self.assertEqual(tokens("*mill"), [("sign", "*"), ("word", "mill")])
        self.assertEqual(tokens("abcdefghij123*"), [("bad", "abcdefghij123"), ("sign", "*")])
        self.assertEqual(tokens("A*"), [("bad", "A"), ("sign", "*")])
        self.assertEqual(tokens("(*"), [("sign", "("), ("sign", "*")])
        self.assertEqual(tokens('"a"*'), [("sign", '"'), ("word", "a"), ("sign", '"'), ("sign", "*")])

    def test_two_stars(self):
        self.assertEqual(tokens("**"), [("sign", "*"), ("sign", "*")])
        self.assertEqual(tokens("a**"), [("start", "a"), ("sign", "*")])
        self.assertEqual(tokens("a* *"), [("start", "a"), ("sign", "*")])
        self.assertEqual(tokens("a***b"), [("start", "a"), ("sign", "*"), ("sign", "*"), ("word", "b")])

    def test_other_characters_one_by_one(self):
        self.assertEqual(tokens("?"), [("bad", "?")])
        self.assertEqual(tokens("\n"), [("bad", "\n")])
        self.assertEqual(tokens("AB"), [("bad", "A"), ("bad", "B")])
        self.assertEqual(tokens("aBc"), [("word", "a"), ("bad", "B"), ("word", "c")])
        self.assertEqual(tokens("a\nb"), [("word", "a"), ("bad", "\n"), ("word", "b")])
        for character in CHARACTERS:
            if character not in SIGNS + SMALL + " ":
                self.assertEqual(tokens("a" + character), [("word", "a"), ("bad", character)])

    def test_spaces(self):
        together = tokens('-(a|b*)<2 c d>@"e"')
        self.assertEqual(tokens('  - ( a  | b* ) <2   c d > @ " e "  '), together)
        self.assertEqual(tokens("a b"), [("word", "a"), ("word", "b")])
        self.assertEqual(tokens("ab"), [("word", "ab")])

    def test_long_texts(self):
        self.assertEqual(tokens("a " * 1500), [("word", "a")] * 1500)
        self.assertEqual(tokens("-" * 3000), [("sign", "-")] * 3000)

    def test_against_a_pattern(self):
        chance = random.Random(3)
        for _ in range(3000):
            kinds = chance.choice([CHARACTERS, SIGNS + " ab", "a1* ", SMALL + "*"])
            text = "".join(chance.choice(kinds) for _ in range(chance.randrange(40)))
            self.assertEqual(tokens(text), tokens_plainly(text), repr(text))

    def test_the_list_is_new_each_time(self):
        tokens("a").append("b")
        self.assertEqual(tokens("a"), [("word", "a")])
