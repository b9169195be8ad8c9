"""[c2], [c3], [c5]: what a change may be; the end of [s1]: which changes count."""

import random
import unittest

from timeshelf.changes import check_change, counted
from timeshelf.errors import InvalidChange

GOOD = (5, "a", "old mill")

# Values that are good in no part at all, of each kind.
NEVER = [True, False, (), (5,), ("a",), [], [5], ["a"], {}, {"a": 5}, 1.5, b"a", b"", object(), int, range(3)]


class Checked(unittest.TestCase):
    def assert_good(self, time, key, text):
        self.assertIsNone(check_change((time, key, text)))

    def assert_wrong(self, time, key, text, word):
        with self.assertRaises(InvalidChange) as caught:
            check_change((time, key, text))
        self.assertEqual(caught.exception.word, word, (time, key, text))

    def test_times(self):
        for time in (0, 1, 99999, 100000):
            self.assert_good(time, "a", "x")
        for time in (-1, -100000, 100001, 10 ** 30, None, "", "5", "a", 5.0):
            self.assert_wrong(time, "a", "x", "time")

    def test_keys(self):
        for key in ("a", "z", "0", "9", "abcdefgh", "12345678", "a1b2c3d4"):
            self.assert_good(5, key, "x")
        for key in ("", "abcdefghi", "123456789", "A", "aB", "Abc", "a b", " a", "a ", "a-", "_", "a.b", "a\n", "\n",
                    "a*", "{", "`", "/", ":", "\u00e4", "\u0661", "\uff11", None, 0, 5, -1):
            self.assert_wrong(5, key, "x", "key")

    def test_texts(self):
        printable = "".join(chr(code) for code in range(32, 127) if code != 37)
        for text in ("", " ", "~", "\n", "\n\n", "a\nb", "Old Mill~", printable, "x" * 400, "\n" * 400, "~" * 399):
            self.assert_good(5, "a", text)
        for text in ("x" * 401, "\n" * 401, "\t", "a\tb", chr(37), "100" + chr(37), "\r", "\r\n", "\x00", "\x1f", "\x0b",
                     "\x7f", "\x80", "\u00e4", "caf\u00e9", "\u20ac", "a\U0001f600", 0, 5, -1):
            self.assert_wrong(5, "a", text, "text")

    def test_each_character(self):
        for code in range(300):
            text = "a" + chr(code) + "b"
            if code == 10 or 32 <= code <= 126 and code != 37:
                self.assert_good(5, "a", text)
            else:
                self.assert_wrong(5, "a", text, "text")

    def test_each_character_of_a_key(self):
        for code in range(300):
            if chr(code) in "abcdefghijklmnopqrstuvwxyz0123456789":
                self.assert_good(5, "a" + chr(code), None)
            else:
                self.assert_wrong(5, "a" + chr(code), None, "key")

    def test_none_is_a_text_and_nothing_else(self):
        self.assert_good(5, "a", None)
        self.assert_wrong(None, "a", None, "time")
        self.assert_wrong(5, None, None, "key")

    def test_values_of_other_kinds(self):
        for value in NEVER:
            self.assert_wrong(value, "a", "x", "time")
            self.assert_wrong(5, value, "x", "key")
            self.assert_wrong(5, "a", value, "text")

    def test_strings_and_numbers_in_the_wrong_parts(self):
        self.assert_wrong("a", 5, "x", "time")
        self.assert_wrong(5, 5, "x", "key")
        self.assert_wrong(5, "a", 5, "text")

    def test_the_first_wrong_part_is_told(self):
        for value in NEVER:
            self.assert_wrong(value, value, value, "time")
            self.assert_wrong(value, "a", value, "time")
            self.assert_wrong(value, value, "x", "time")
            self.assert_wrong(5, value, value, "key")
        self.assert_wrong(-1, "", "\t", "time")
        self.assert_wrong(100001, "A", "x", "time")
        self.assert_wrong(0, "A", "\t", "key")


def counted_plainly(changes):
    """Each change that no later one of its key and time follows."""
    found = []
    for at, (time, key, text) in enumerate(changes):
        if not [1 for later in changes[at + 1:] if later[:2] == (time, key)]:
            found.append((key, time, text))
    return [(time, key, text) for key, time, text in sorted(found, key=lambda place: place[:2])]


class Counted(unittest.TestCase):
    def test_none_and_one(self):
        self.assertEqual(counted([]), [])
        self.assertEqual(counted([GOOD]), [GOOD])

    def test_by_key_then_by_time(self):
        told = [(9, "b", "x"), (1, "b", "y"), (30, "a", "z"), (4, "a", None), (200, "a", "w"), (0, "10", "v")]
        expected = [(0, "10", "v"), (4, "a", None), (30, "a", "z"), (200, "a", "w"), (1, "b", "y"), (9, "b", "x")]
        self.assertEqual(counted(told), expected)

    def test_the_last_told_counts(self):
        told = [(5, "a", "first"), (5, "b", "other"), (3, "a", "early"), (5, "a", "second")]
        self.assertEqual(counted(told), [(3, "a", "early"), (5, "a", "second"), (5, "b", "other")])
        self.assertEqual(counted(told[::-1]), [(3, "a", "early"), (5, "a", "first"), (5, "b", "other")])

    def test_none_as_a_text(self):
        self.assertEqual(counted([(5, "a", "x"), (5, "a", None)]), [(5, "a", None)])
        self.assertEqual(counted([(5, "a", None), (5, "a", "x")]), [(5, "a", "x")])
        self.assertEqual(counted([(5, "a", None), (5, "a", None)]), [(5, "a", None)])
        self.assertEqual(counted([(5, "a", "z"), (5, "a", None), (5, "a", "")]), [(5, "a", "")])

    def test_the_text_that_counts_is_not_the_greatest(self):
        self.assertEqual(counted([(5, "a", "z"), (5, "a", "b")]), [(5, "a", "b")])

    def test_the_arguments_are_not_modified(self):
        told = [(5, "b", "x"), (5, "b", None), (1, "a", "y")]
        before = list(told)
        counted(told).append(GOOD)
        self.assertEqual(told, before)
        self.assertEqual(counted(told), [(1, "a", "y"), (5, "b", None)])

    def test_the_list_is_new(self):
        told = [GOOD]
        self.assertIsNot(counted(told), told)

    def test_made_changes(self):
        chance = random.Random(68)
        for _ in range(400):
            told = [(chance.randrange(6), chance.choice(["a", "b", "10", "9"]), chance.choice([None, "", "x", "y"]))
                    for _ in range(chance.randrange(40))]
            self.assertEqual(counted(told), counted_plainly(told))

    def test_many_changes_of_one_key_and_time(self):
        told = [(7, "a", str(at)) for at in range(60)] + [(6, "a", None)] + [(7, "b", "x")] * 5
        self.assertEqual(counted(told), [(6, "a", None), (7, "a", "59"), (7, "b", "x")])
