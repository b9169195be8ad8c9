"""[q7]: how a question is written, and that it is read back as itself."""

import random
import unittest

from making import depth_of_brackets, made_question
from timeshelf.questions import read_question
from timeshelf.writing import write_question

ALL = ("all",)
A = ("row", (("word", "a"),), 0)
B = ("row", (("start", "b"),), 0)
AND = ("and", (A, B))
OR = ("or", (A, B))
NOT = ("not", A)


class Rows(unittest.TestCase):
    def assert_written(self, patterns, gap, text):
        self.assertEqual(write_question(("row", patterns, gap)), text)

    def test_one_pattern_with_the_gap_0(self):
        self.assert_written((("word", "mill"),), 0, "mill")
        self.assert_written((("start", "mill"),), 0, "mill*")
        self.assert_written((("word", "7"),), 0, "7")

    def test_one_pattern_with_another_gap(self):
        self.assert_written((("word", "mill"),), 1, "<1 mill>")
        self.assert_written((("start", "mill"),), 9, "<9 mill*>")

    def test_several_with_the_gap_0(self):
        self.assert_written((("word", "a"), ("word", "b")), 0, '"a b"')
        self.assert_written((("start", "a"), ("word", "b"), ("start", "c")), 0, '"a* b c*"')
        self.assert_written((("word", "a"),) * 6, 0, '"a a a a a a"')

    def test_several_with_another_gap(self):
        self.assert_written((("word", "a"), ("word", "b")), 1, "<1 a b>")
        self.assert_written((("start", "3"), ("word", "2"), ("start", "1")), 4, "<4 3* 2 1*>")
        self.assert_written((("word", "a"),) * 6, 9, "<9 a a a a a a>")


class Kinds(unittest.TestCase):
    def assert_written(self, question, text):
        self.assertEqual(write_question(question), text)
        self.assertEqual(read_question(text), question)

    def test_no_brackets_around_the_whole(self):
        self.assert_written(A, "a")
        self.assert_written(ALL, "@")
        self.assert_written(NOT, "-a")
        self.assert_written(AND, "a b*")
        self.assert_written(OR, "a | b*")
        self.assert_written(("and", (A, B, A)), "a b* a")
        self.assert_written(("or", (A, B, A)), "a | b* | a")

    def test_the_question_of_a_not(self):
        self.assert_written(("not", AND), "-(a b*)")
        self.assert_written(("not", OR), "-(a | b*)")
        self.assert_written(("not", NOT), "--a")
        self.assert_written(("not", ALL), "-@")
        self.assert_written(("not", ("row", (("word", "a"), ("word", "b")), 0)), '-"a b"')
        self.assert_written(("not", ("row", (("word", "a"),), 2)), "-<2 a>")

    def test_the_parts_of_an_and(self):
        self.assert_written(("and", (OR, A)), "(a | b*) a")
        self.assert_written(("and", (A, OR)), "a (a | b*)")
        self.assert_written(("and", (AND, A)), "(a b*) a")
        self.assert_written(("and", (A, AND)), "a (a b*)")
        self.assert_written(("and", (NOT, A, ALL, NOT)), "-a a @ -a")
        self.assert_written(("and", (("row", (("word", "a"),), 2), B)), "<2 a> b*")

    def test_the_parts_of_an_or(self):
        self.assert_written(("or", (OR, A)), "(a | b*) | a")
        self.assert_written(("or", (A, OR)), "a | (a | b*)")
        self.assert_written(("or", (AND, A)), "a b* | a")
        self.assert_written(("or", (A, AND, AND)), "a | a b* | a b*")
        self.assert_written(("or", (NOT, ALL)), "-a | @")

    def test_nested(self):
        self.assert_written(("not", ("not", AND)), "--(a b*)")
        self.assert_written(("and", (("not", OR), A)), "-(a | b*) a")
        self.assert_written(("or", (("not", AND), ("and", (OR, A)))), "-(a b*) | (a | b*) a")
        self.assert_written(("not", ("or", (AND, ("and", (A, ("or", (AND, A))))))), "-(a b* | a (a b* | a))")

    def test_the_example_of_the_interface(self):
        text = '"old mill*" | -<2 a b>'
        self.assertEqual(write_question(read_question(text)), text)

    def test_what_need_not_be_written(self):
        self.assertEqual(write_question(read_question('((a)) | (("b"c))')), "a | b c")
        self.assertEqual(write_question(read_question("<0 a> <0 a b> <3 a>")), 'a "a b" <3 a>')


class Reading(unittest.TestCase):
    def test_what_is_written_is_read_as_itself(self):
        chance = random.Random(15)
        read = 0
        for _ in range(4000):
            question = made_question(chance, 24)
            text = write_question(question)
            if depth_of_brackets(text) <= 6:
                self.assertEqual(read_question(text), question, text)
                read += 1
        self.assertGreater(read, 2000)

    def test_brackets_six_deep_and_the_greatest_size(self):
        question = A
        for _ in range(6):
            question = ("not", ("and", (question, B)))
        self.assertEqual(depth_of_brackets(write_question(question)), 6)
        self.assertEqual(read_question(write_question(question)), question)
        question = ("and", (A,) * 23)
        self.assertEqual(read_question(write_question(question)), question)

    def test_questions_of_a_greater_size_are_written(self):
        question = A
        for _ in range(60):
            question = ("not", question)
        self.assertEqual(write_question(question), "-" * 60 + "a")
