"""[q1], [q2], [q5], [q6]: reading questions, their faults, their sizes and patterns."""

import itertools
import random
import re
import unittest

from making import depth_of_brackets, made_question, size_plainly
from timeshelf.errors import QuestionFault
from timeshelf.questions import begins, patterns_of, read_question, size
from timeshelf.tokens import tokens

ALPHABET = [("word", "a"), ("word", "5"), ("start", "a"), ("bad", "A")]
ALPHABET += [("sign", sign) for sign in '*"<>()|-@']


def row(*words, gap=0):
    """A row of words, and of starts where a word has a star."""
    patterns = [("start", word[:-1]) if word[-1] == "*" else ("word", word) for word in words]
    return ("row", tuple(patterns), gap)


A, B, C, D = row("a"), row("b"), row("c"), row("d")


def encoded(found):
    """A row of tokens, a character each: d for a digit, w for another word, s for a start, x for a bad one."""
    letters = {"word": "w", "start": "s", "bad": "x"}
    text = ""
    for kind, string in found:
        digit = kind == "word" and re.fullmatch("[0-9]", string)
        text += string if kind == "sign" else "d" if digit else letters[kind]
    return text


def grammar(depth):
    """The grammar of [q5] as a pattern of encoded tokens, with brackets at most so deep."""
    clause = "-*(?:@|[dws]|\"[dws]{1,6}\"|<d[dws]{1,6}>"
    if depth > 0:
        clause += "|[(]" + grammar(depth - 1) + "[)]"
    clause += ")"
    return clause + "(?:[|]?" + clause + ")*"


GRAMMAR = re.compile(grammar(6))
ENDS = ["", "@", "dw>", "w>", ">", 'w"', '"']


def begins_plainly(found):
    """Whether some end makes a question of these tokens."""
    text = encoded(found)
    closing = ")" * (text.count("(") - text.count(")"))
    return any(GRAMMAR.fullmatch(text + end + closing) for end in ENDS)


def fault_plainly(found):
    """The fault of a row of tokens by [q6], without the size; None if it is a question."""
    for count in range(len(found)):
        if not begins_plainly(found[:count + 1]):
            return (count, "unexpected")
    if GRAMMAR.fullmatch(encoded(found)):
        return None
    return (len(found), "end")


def text_of(found):
    """A text with these tokens."""
    return " ".join(string + "*" if kind == "start" else string for kind, string in found)


class Reading(unittest.TestCase):
    def assert_reads(self, text, question):
        self.assertEqual(read_question(text), question, text)

    def test_example_of_the_interface(self):
        near = ("row", (("word", "a"), ("word", "b")), 2)
        phrase = ("row", (("word", "old"), ("start", "mill")), 0)
        self.assert_reads('"old mill*" | -<2 a b>', ("or", (phrase, ("not", near))))

    def test_patterns(self):
        self.assert_reads("a", ("row", (("word", "a"),), 0))
        self.assert_reads("a*", ("row", (("start", "a"),), 0))
        self.assert_reads("  7  ", ("row", (("word", "7"),), 0))
        self.assert_reads("abcdefghij12*", ("row", (("start", "abcdefghij12"),), 0))

    def test_all_and_not(self):
        self.assert_reads("@", ("all",))
        self.assert_reads("-@", ("not", ("all",)))
        self.assert_reads("-a", ("not", A))
        self.assert_reads("- -a", ("not", ("not", A)))
        self.assert_reads("---a*", ("not", ("not", ("not", row("a*")))))
        self.assert_reads('-"a b"', ("not", row("a", "b")))
        self.assert_reads("-<1 a>", ("not", row("a", gap=1)))
        self.assert_reads("-(a)", ("not", A))

    def test_a_denial_has_one_clause(self):
        self.assert_reads("-a b", ("and", (("not", A), B)))
        self.assert_reads("-a | b", ("or", (("not", A), B)))
        self.assert_reads("-(a b)", ("not", ("and", (A, B))))
        self.assert_reads("-(a | b) c", ("and", (("not", ("or", (A, B))), C)))

    def test_clauses_and_alternatives(self):
        self.assert_reads("a b", ("and", (A, B)))
        self.assert_reads("a b c a", ("and", (A, B, C, A)))
        self.assert_reads("a|b", ("or", (A, B)))
        self.assert_reads("c | b | a | c", ("or", (C, B, A, C)))
        self.assert_reads("a b | c", ("or", (("and", (A, B)), C)))
        self.assert_reads("a | b c", ("or", (A, ("and", (B, C)))))
        self.assert_reads("a b | c d | @ @", ("or", (
            ("and", (A, B)), ("and", (C, D)), ("and", (("all",), ("all",))))))

    def test_brackets_that_are_needed(self):
        self.assert_reads("(a | b) c", ("and", (("or", (A, B)), C)))
        self.assert_reads("a (b c)", ("and", (A, ("and", (B, C)))))
        self.assert_reads("(a b) c", ("and", (("and", (A, B)), C)))
        self.assert_reads("(a | b) | c", ("or", (("or", (A, B)), C)))
        self.assert_reads("a | (b | c)", ("or", (A, ("or", (B, C)))))

    def test_brackets_that_are_not_needed(self):
        self.assert_reads("(a)", A)
        self.assert_reads("((((((a))))))", A)
        self.assert_reads("(@)(-a)", ("and", (("all",), ("not", A))))
        self.assert_reads("(a b) | (c)", ("or", (("and", (A, B)), C)))
        self.assert_reads('("a b")', row("a", "b"))

    def test_quotes_and_gaps(self):
        names = "abcdef"
        for count in range(1, 7):
            patterns = row(*names[:count])[1]
            self.assert_reads('"' + " ".join(names[:count]) + '"', ("row", patterns, 0))
            for gap in range(10):
                self.assert_reads(f"<{gap} " + " ".join(names[:count]) + ">", ("row", patterns, gap))
        self.assert_reads('"a* 1 b*"', row("a*", "1", "b*"))
        self.assert_reads("<3 a*b*c>", row("a*", "b*", "c", gap=3))

    def test_spaces_anywhere(self):
        self.assert_reads(' " a b " < 2 a b > ', ("and", (row("a", "b"), row("a", "b", gap=2))))
        self.assert_reads('"a b"<2 a b>@-c(d)', ("and", (
            row("a", "b"), row("a", "b", gap=2), ("all",), ("not", C), D)))

    def test_one_question_many_times(self):
        self.assert_reads("a a | a", ("or", (("and", (A, A)), A)))


class Faults(unittest.TestCase):
    def assert_fault(self, text, place, word):
        with self.assertRaises(QuestionFault) as caught:
            read_question(text)
        self.assertEqual((caught.exception.place, caught.exception.word), (place, word), repr(text))

    def test_the_first_token_that_cannot_stand_there(self):
        for text in (")", "|", ">", "*", "| a", "?", "A", "\n", "a" * 13):
            self.assert_fault(text, 0, "unexpected")
        for text in ("a )", "a >", "a *", "a**", "(|", "()", "-)", "-|", '""', "@A", "-?", "a\nb"):
            self.assert_fault(text, 1, "unexpected")
        for text in ("a | | b", "a | )", "(a >", '"a (', '"a -b"', '"a | b"', "<2>", "<2 (a)>"):
            self.assert_fault(text, 2, "unexpected")
        self.assert_fault('"a" b )', 4, "unexpected")
        self.assert_fault("(a))", 3, "unexpected")
        self.assert_fault("<2 a b)", 4, "unexpected")
        self.assert_fault('<2 a b"', 4, "unexpected")
        self.assert_fault('"a b>', 3, "unexpected")

    def test_the_word_behind_the_sign_of_a_gap(self):
        for text in ("<a b>", "<12 a>", "<01 a>", "<2* a>", "<> ", "<(", "<-1 a>", "<<1 a>", "<" + "1" * 13):
            self.assert_fault(text, 1, "unexpected")
        for digit in "0123456789":
            self.assertEqual(read_question("<" + digit + " a>"), row("a", gap=int(digit)))

    def test_the_seventh_pattern(self):
        self.assertEqual(read_question('"a b c d e f"'), row(*"abcdef"))
        self.assert_fault('"a b c d e f g"', 7, "unexpected")
        self.assert_fault('"a b c d e f g*', 7, "unexpected")
        self.assertEqual(read_question("<1 a b c d e f>"), row(*"abcdef", gap=1))
        self.assert_fault("<1 a b c d e f g>", 8, "unexpected")

    def test_no_pattern(self):
        self.assert_fault('""', 1, "unexpected")
        self.assert_fault("<1>", 2, "unexpected")

    def test_the_seventh_open_bracket(self):
        self.assertEqual(read_question("((((((a))))))"), A)
        self.assert_fault("(((((((a)))))))", 6, "unexpected")
        self.assert_fault("((((((a (b", 7, "unexpected")
        self.assert_fault("((((((-(b", 7, "unexpected")
        self.assert_fault("((((((a | (b", 8, "unexpected")
        self.assert_fault("(" * 3000, 6, "unexpected")
        self.assertEqual(read_question("(((((a)(b)))))"), ("and", (A, B)))
        self.assertEqual(read_question("((((((a)))))) ((((((b))))))"), ("and", (A, B)))
        self.assertEqual(size(read_question("(a) " * 20)), 21)

    def test_the_end_too_early(self):
        self.assert_fault("", 0, "end")
        self.assert_fault("   ", 0, "end")
        for text in ("-", "(", '"', "<"):
            self.assert_fault(text, 1, "end")
        for text in ("a |", "--", "(a", '"a', "<2", "a -", "a ("):
            self.assert_fault(text, 2, "end")
        for text in ("a b |", "<2 a", "(a |", '"a b', "((a", "a | -"):
            self.assert_fault(text, 3, "end")
        self.assert_fault('"a b c d e f', 7, "end")
        self.assert_fault("((((((a)))))", 12, "end")
        self.assert_fault("-" * 3000, 3000, "end")

    def test_the_size(self):
        self.assertEqual(size(read_question("a " * 23)), 24)
        self.assert_fault("a " * 24, 24, "size")
        self.assertEqual(size(read_question("-" * 23 + "a")), 24)
        self.assert_fault("-" * 24 + "a", 25, "size")
        self.assert_fault("-" * 2999 + "a", 3000, "size")
        self.assertEqual(size(read_question("|".join(["a"] * 23))), 24)
        self.assert_fault("|".join(["a"] * 24), 47, "size")
        self.assert_fault("|".join(["a"] * 1500), 2999, "size")
        self.assertEqual(size(read_question("a b | " * 7 + "-c")), 24)
        self.assert_fault("a b | " * 7 + "--c", 24, "size")

    def test_brackets_and_patterns_have_no_size(self):
        self.assertEqual(size(read_question('(((((("a b c d e f" <9 a b c d e f>))))))')), 3)

    def test_which_fault_comes_first(self):
        self.assert_fault("a ) (", 1, "unexpected")
        self.assert_fault("a | ?", 2, "unexpected")
        self.assert_fault("? )", 0, "unexpected")
        self.assert_fault("a " * 30 + ")", 30, "unexpected")
        self.assert_fault("a " * 30 + "|", 31, "end")
        self.assert_fault("(" + "a " * 30, 31, "end")
        self.assert_fault('"a b c d e f g', 7, "unexpected")

    def test_all_short_rows_of_tokens(self):
        for count in range(5):
            for found in itertools.product(ALPHABET, repeat=count):
                self.assert_read_plainly(list(found))

    def test_longer_rows_of_tokens(self):
        chance = random.Random(11)
        for _ in range(3000):
            found = made_tokens(chance)
            self.assert_read_plainly(found)

    def assert_read_plainly(self, found):
        text = text_of(found)
        fault = fault_plainly(found)
        if fault is not None:
            self.assert_fault(text, *fault)
        else:
            try:
                self.assertEqual(size(read_question(text)), size_plainly(read_question(text)))
            except QuestionFault as caught:
                self.assertEqual((caught.place, caught.word), (len(found), "size"))


class Beginnings(unittest.TestCase):
    def test_every_beginning_of_a_question(self):
        texts = ['"old mill*" | -<2 a b>', "((a | b) -c) @", "<0 1 2 3>", "((((((a | b*))))))", "--(a)",
                 '"a b c d e f" <9 a b c d e f>']
        for text in texts:
            found = tokens(text)
            for count in range(len(found) + 1):
                self.assertIs(begins(found[:count]), True, found[:count])

    def test_what_no_question_begins_with(self):
        for text in (")", "|", "*", ">", "A", "a )", "a *", "()", '""', "<a", "<12", "<1*", "<1>", "a | |",
                     '"a b c d e f g', "<1 a b c d e f g", "(((((((", "-|", "(a))"):
            self.assertIs(begins(tokens(text)), False, text)
            self.assertIs(begins(tokens(text + " a")), False, text)

    def test_no_size_is_looked_at(self):
        self.assertIs(begins(tokens("a " * 100)), True)
        self.assertIs(begins(tokens("-" * 3000)), True)
        self.assertIs(begins(tokens("-" * 2999 + "a")), True)

    def test_all_short_rows_of_tokens(self):
        for count in range(5):
            for found in itertools.product(ALPHABET, repeat=count):
                self.assertIs(begins(list(found)), begins_plainly(list(found)), found)

    def test_longer_rows_of_tokens(self):
        chance = random.Random(12)
        for _ in range(2000):
            found = made_tokens(chance)
            self.assertIs(begins(found), begins_plainly(found), found)

    def test_the_argument_stays(self):
        found = tokens('"a b" (c')
        begins(found)
        self.assertEqual(found, tokens('"a b" (c'))


class Sizes(unittest.TestCase):
    def test_of_each_kind(self):
        self.assertEqual(size(row("a", "b", "c")), 1)
        self.assertEqual(size(("all",)), 1)
        self.assertEqual(size(("not", A)), 2)
        self.assertEqual(size(("and", (A, B))), 3)
        self.assertEqual(size(("or", (A, B, A, A))), 5)

    def test_nested(self):
        inner = ("or", (A, ("not", ("and", (B, ("all",))))))
        self.assertEqual(size(inner), 6)
        self.assertEqual(size(("and", (inner, ("not", inner)))), 14)

    def test_made_questions(self):
        chance = random.Random(13)
        for _ in range(500):
            question = made_question(chance, 40)
            self.assertEqual(size(question), size_plainly(question))


class Patterns(unittest.TestCase):
    def test_sorted_and_each_once(self):
        question = read_question('b a* | -"b a a*" <2 a c*> @')
        expected = [("start", "a"), ("start", "c"), ("word", "a"), ("word", "b")]
        self.assertEqual(patterns_of(question), expected)

    def test_a_word_and_a_start_are_two(self):
        self.assertEqual(patterns_of(read_question("a a*")), [("start", "a"), ("word", "a")])

    def test_none(self):
        self.assertEqual(patterns_of(("all",)), [])
        self.assertEqual(patterns_of(read_question("-(@ | @)")), [])

    def test_nested(self):
        self.assertEqual(patterns_of(read_question("-(a | -(b (c | -a)))")), [
            ("word", "a"), ("word", "b"), ("word", "c")])

    def test_the_list_is_new_each_time(self):
        patterns_of(A).append("b")
        self.assertEqual(patterns_of(A), [("word", "a")])


def made_tokens(chance):
    """The tokens of a question, with up to two of them changed, taken out or put in."""
    found = tokens(made_text(chance))
    for _ in range(chance.randrange(3)):
        at = chance.randrange(len(found) + 1)
        put = [chance.choice(ALPHABET)] * chance.randrange(2)
        found = found[:at] + put + found[at + chance.randrange(2):]
    return found


def made_text(chance):
    """A text of a question that is not deeper than the grammar allows."""
    while True:
        text = bracketed_text(made_question(chance, 12), chance)
        if depth_of_brackets(text) <= 6:
            return text


def bracketed_text(question, chance):
    """A text of a question, with brackets around each part, and around some other ones."""
    kind = question[0]
    if kind == "all":
        text = "@"
    elif kind == "not":
        text = "-" + enclosed(bracketed_text(question[1], chance), question[1])
    elif kind == "row":
        told = [word + "*" if start == "start" else word for start, word in question[1]]
        text = f"<{question[2]} {' '.join(told)}>"
    else:
        parts = [enclosed(bracketed_text(part, chance), part) for part in question[1]]
        text = chance.choice(["|", " | "] if kind == "or" else [" ", "  "]).join(parts)
    return "(" + text + ")" if chance.random() < 0.1 else text


def enclosed(text, question):
    return "(" + text + ")" if question[0] in ("and", "or") else text


class Trees(unittest.TestCase):
    def test_made_questions_are_read(self):
        chance = random.Random(14)
        read = 0
        for _ in range(2000):
            question = made_question(chance, 24)
            text = bracketed_text(question, chance)
            if depth_of_brackets(text) <= 6:
                self.assertEqual(read_question(text), question, text)
                read += 1
        self.assertGreater(read, 1000)
