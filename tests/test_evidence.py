"""[e1], [e2], [e3]: evidence that a document matches or does not, and how it is checked."""

import itertools
import random
import unittest

from making import made_question
from plain import matches_plainly, standings_plainly
from timeshelf.errors import TooMany
from timeshelf.evidence import check_evidence, evidence_for
from timeshelf.matching import standings
from timeshelf.questions import read_question

TEXTS = ["a", "b", "ab", "ba", "abc", "0"]

# Values of each kind that evidence may be made of, to be put where they do not belong.
STRANGE = [(), 0, 1, -1, 7, "", "a", "all", "nowhere", "stands", (0,), (1,), ("all",), ("nowhere",), ("stands",),
           ("stands", ()), ("stands", (0,)), ("stands", ((0,),)), ("stands", ("a",)), ("stands", 0), ("stands", "a"),
           ("not", ("all",)), ("not", ("nowhere",)), ("each", ()), ("each", (("all",), ("all",))),
           ("one", 0, ("nowhere",)), ("one", 0, ("stands", (0,))), ("one", 1, ("all",)), ("one", (0,), ("all",)),
           ("one", "0", ("all",)), ((),), ((), ()), ((), (), ())]


def evidence_plainly(document, question):
    """Whether the document matches, and the list of all evidence of that, from [e1] alone."""
    kind = question[0]
    if kind == "row":
        found = standings_plainly(document, question)
        if found:
            return True, [("stands", places) for places in found]
        return False, [("nowhere",)]
    if kind == "all":
        return True, [("all",)]
    if kind == "not":
        answer, found = evidence_plainly(document, question[1])
        return not answer, [("not", evidence) for evidence in found]
    parts = [evidence_plainly(document, part) for part in question[1]]
    deciding = kind == "or"
    if deciding in [answer for answer, _ in parts]:
        return deciding, [("one", index, evidence) for index, (answer, found) in enumerate(parts)
                          if answer is deciding for evidence in found]
    combined = itertools.product(*[found for _, found in parts])
    return not deciding, [("each", evidences) for evidences in itertools.islice(combined, 200)]


def first_plainly(document, question):
    """[e2]: the evidence with the first standing and the least index."""
    return min(evidence_plainly(document, question)[1])


def changed(chance, tree):
    """The tree with one of its parts, at any depth, put in another's place, left out, told twice or replaced."""
    if not isinstance(tree, tuple) or tree == () or chance.random() < 0.25:
        if isinstance(tree, int) and chance.random() < 0.8:
            return tree + chance.choice([-1, 1, 1, 2])
        return chance.choice(STRANGE)
    at = chance.randrange(len(tree))
    way = chance.randrange(8)
    if way == 0:
        return tree[:at] + tree[at + 1:]
    if way == 1:
        return tree[:at] + (tree[at],) + tree[at:]
    if way == 2:
        return tree + (chance.choice(STRANGE),)
    if way == 3:
        return tree[:at] + tuple(reversed(tree[at:]))
    return tree[:at] + (changed(chance, tree[at]),) + tree[at + 1:]


class Given(unittest.TestCase):
    def assert_given(self, words, text, evidence):
        document = tuple(words)
        question = read_question(text)
        self.assertEqual(evidence_for(document, question), evidence, (words, text))
        shown = "yes" if matches_plainly(document, question) else "no"
        self.assertEqual(check_evidence(document, question, evidence), shown, (words, text))

    def test_a_row_that_stands(self):
        self.assert_given("ab", "b", ("stands", (1,)))
        self.assert_given("xab", '"a b"', ("stands", (1, 2)))
        self.assert_given(["x", "mills"], "mill*", ("stands", (1,)))

    def test_a_row_that_stands_nowhere(self):
        self.assert_given("ab", "c", ("nowhere",))
        self.assert_given("axb", '"a b"', ("nowhere",))
        self.assert_given("ba", '"a b"', ("nowhere",))
        self.assert_given("", "a", ("nowhere",))

    def test_the_first_standing_in_sorted_order(self):
        self.assert_given("bababb", "b", ("stands", (0,)))
        self.assert_given("aabb", "<2 a b>", ("stands", (0, 2)))
        self.assert_given("aabb", '"a b"', ("stands", (1, 2)))
        self.assert_given("aabbc", "<2 a b c>", ("stands", (0, 2, 4)))
        # The second place is not the first one that fits: the gap would be too wide then.
        self.assert_given("axbabc", "<1 a b c>", ("stands", (3, 4, 5)))
        self.assert_given("abxbc", "<2 a b c>", ("stands", (0, 1, 4)))

    def test_a_row_with_more_than_500_standings(self):
        document = ("a",) * 60
        row = read_question("<9 a a a a a a>")
        with self.assertRaises(TooMany):
            standings(document, row)
        self.assertEqual(evidence_for(document, row), ("stands", (0, 1, 2, 3, 4, 5)))
        self.assertEqual(check_evidence(document, row, ("stands", (40, 41, 44, 47, 52, 54))), "yes")
        self.assertEqual(check_evidence(document, row, ("stands", (40, 41, 44, 47, 52, 55))), None)
        self.assertEqual(check_evidence(document, row, ("nowhere",)), None)
        negated = ("not", ("and", (row, ("all",))))
        self.assertEqual(evidence_for(document, negated),
                         ("not", ("each", (("stands", (0, 1, 2, 3, 4, 5)), ("all",)))))

    def test_many_beginnings_and_one_end(self):
        document = ("a",) * 100 + ("b",)
        row = read_question("<9 a a a a a b>")
        self.assertEqual(evidence_for(document, row), ("stands", (86, 87, 88, 89, 90, 100)))
        self.assertEqual(evidence_for(document[:-1], row), ("nowhere",))

    def test_all_and_not(self):
        self.assert_given("", "@", ("all",))
        self.assert_given("a", "-@", ("not", ("all",)))
        self.assert_given("a", "--@", ("not", ("not", ("all",))))
        self.assert_given("a", "-a", ("not", ("stands", (0,))))
        self.assert_given("a", "-b", ("not", ("nowhere",)))
        self.assert_given("a", "--a", ("not", ("not", ("stands", (0,)))))
        self.assert_given("a", "---b", ("not", ("not", ("not", ("nowhere",)))))

    def test_each_part_in_order(self):
        self.assert_given("ba", "a b @", ("each", (("stands", (1,)), ("stands", (0,)), ("all",))))
        self.assert_given("c", "a | b | -@", ("each", (("nowhere",), ("nowhere",), ("not", ("all",)))))

    def test_the_least_index(self):
        self.assert_given("cba", "x | a | y | b | c", ("one", 1, ("stands", (2,))))
        self.assert_given("a", "a x -@ y", ("one", 1, ("nowhere",)))
        self.assert_given("a", "a -a y", ("one", 1, ("not", ("stands", (0,)))))
        self.assert_given("", "a | -a | @", ("one", 1, ("not", ("nowhere",))))

    def test_nested(self):
        self.assert_given("ad", "-(a b | c) (d | -e)", ("each", (
            ("not", ("each", (("one", 1, ("nowhere",)), ("nowhere",)))),
            ("one", 0, ("stands", (1,))),
        )))
        self.assert_given("c", "-(a b | c) (d | -e)", ("one", 0, ("not", ("one", 1, ("stands", (0,))))))

    def test_made_questions(self):
        chance = random.Random(61)
        shown = []
        for _ in range(2500):
            document = tuple(chance.choice(TEXTS) for _ in range(chance.randrange(8)))
            question = made_question(chance, 12)
            evidence = evidence_for(document, question)
            self.assertEqual(evidence, first_plainly(document, question), (document, question))
            shown.append(check_evidence(document, question, evidence))
            self.assertEqual(shown[-1] == "yes", matches_plainly(document, question))
        self.assertEqual(sorted(set(shown)), ["no", "yes"])


class Checked(unittest.TestCase):
    def assert_shown(self, words, text, evidence, shown):
        found = check_evidence(tuple(words), read_question(text), evidence)
        self.assertEqual(found, shown, (words, text, evidence))

    def assert_nothing(self, words, text, evidences):
        for evidence in evidences:
            self.assert_shown(words, text, evidence, None)

    def test_each_standing_is_accepted(self):
        for places in ((0, 2), (0, 3), (1, 2), (1, 3)):
            self.assert_shown("aabb", "<2 a b>", ("stands", places), "yes")
        self.assert_shown("aba", "a*", ("stands", (2,)), "yes")

    def test_places_that_are_no_standing(self):
        self.assert_nothing("aabb", "<1 a b>", [("stands", places) for places in (
            (2, 0), (3, 1), (1, 1), (2, 2), (0, 3), (-3, 2), (-4, -2), (-1, 0), (1, -1), (1, 4), (4, 5), (100, 101),
            (0, 1), (2, 3), (), (1,), (2,), (0, 1, 2), (1, 2, 3), (0, 0, 2), (1, 2, 2))])

    def test_places_that_do_not_rise_though_the_words_fit(self):
        self.assert_shown("aaaa", "<9 a a>", ("stands", (1, 3)), "yes")
        self.assert_nothing("aaaa", "<9 a a>", [("stands", places) for places in ((0, 0), (2, 2), (1, 0), (3, 1))])
        self.assert_nothing("aaaa", "<9 a a a>", [("stands", places) for places in (
            (0, 0, 1), (0, 1, 1), (2, 2, 2), (0, 2, 1), (2, 0, 3))])

    def test_the_gap_and_one_more(self):
        for gap in range(10):
            text = f"<{gap} a b>"
            self.assert_shown("a" + "x" * gap + "b", text, ("stands", (0, gap + 1)), "yes")
            self.assert_shown("a" + "x" * gap + "xb", text, ("stands", (0, gap + 2)), None)
        self.assert_shown("axbxc", "<2 a b c>", ("stands", (0, 2, 4)), "yes")
        self.assert_shown("axbxc", "<1 a b c>", ("stands", (0, 2, 4)), None)

    def test_a_place_below_0_or_behind_the_end(self):
        self.assert_nothing("aaa", "a", [("stands", (at,)) for at in (-1, -2, -3, -4, 3, 4, 10 ** 20)])
        self.assert_nothing("aaa", "<9 a a>", [("stands", places) for places in ((-1, 0), (-2, 2), (2, 3), (0, 3))])
        self.assert_nothing("", "a", [("stands", (0,)), ("stands", (-1,))])

    def test_words_that_do_not_fit(self):
        self.assert_nothing(["ab", "a", "b"], '"a b"', [("stands", (0, 1)), ("stands", (0, 2))])
        self.assert_nothing(["ab", "b"], "a", [("stands", (0,)), ("stands", (1,))])
        self.assert_nothing(["ab", "b"], "b*", [("stands", (0,))])

    def test_nowhere(self):
        self.assert_shown("ab", "c", ("nowhere",), "no")
        self.assert_shown("axb", '"a b"', ("nowhere",), "no")
        self.assert_shown("", "a*", ("nowhere",), "no")
        self.assert_nothing("ab", "b", [("nowhere",)])
        self.assert_nothing("axab", '"a b"', [("nowhere",)])

    def test_other_kinds_for_a_row(self):
        self.assert_nothing("ab", "a", [
            (), 0, "stands", "nowhere", ("stands",), ("stands", (0,), (0,)), ("stands", (0,), ()), ("stands", 0),
            ("stands", "0"), ("stands", "a"), ("stands", ((0,),)), ("stands", ("0",)), ("stands", ((),)), ("all",),
            ("not", ("nowhere",)), ("each", (("stands", (0,)),)), ("one", 0, ("stands", (0,))), (0,), (("stands",), (0,)),
            ("Stands", (0,)), ("stand", (0,)), ((0,), "stands")])
        self.assert_nothing("ab", "c", [("nowhere", ()), ("nowhere", 0), "nowhere", ("no",), ("stands", ()), ("all",),
                                        (), ("nowhere", "nowhere"), (("nowhere",),)])

    def test_other_kinds_for_all(self):
        self.assert_shown("a", "@", ("all",), "yes")
        self.assert_nothing("a", "@", [(), "all", 0, 1, ("all", ()), ("all", "all"), ("nowhere",), ("stands", (0,)),
                                       (("all",),), ("not", ("all",)), ("a", "l", "l"), ("each", ())])

    def test_other_kinds_for_not(self):
        self.assert_shown("a", "-@", ("not", ("all",)), "no")
        self.assert_shown("a", "-b", ("not", ("nowhere",)), "yes")
        self.assert_nothing("a", "-b", [
            (), "not", 0, ("not",), ("not", ()), ("not", 0), ("not", "nowhere"), ("not", ("nowhere",), ()),
            ("not", ("nowhere",), ("nowhere",)), ("nowhere",), ("stands", (0,)), ("not", ("stands", (0,))),
            ("not", ("not", ("nowhere",))), ("no", ("nowhere",)), ("not", ("all",))])
        self.assert_nothing("a", "--a", [("not", ("stands", (0,))), ("stands", (0,)), ("not", ("not", ("nowhere",)))])

    def test_each_for_an_and(self):
        yes = ("stands", (0,))
        also = ("stands", (1,))
        self.assert_shown("ab", "a b", ("each", (yes, also)), "yes")
        self.assert_nothing("ab", "a b", [
            ("each", (also, yes)), ("each", (yes,)), ("each", (yes, also, also)), ("each", (yes, yes)),
            ("each", (also, also)), ("each", (yes, yes, also)), ("each", ()), ("each", yes, also), ("each",),
            ("each", "ab"), ("each", 2), ("each", (0, 1)), ("each", ("a", "b")), ("each", (yes, ())),
            ("each", ((), also)), (yes, also), ("one", 0, yes), ("one", 1, also), ("one", (yes, also)),
            ("each", (yes, ("nowhere",))), ("each", (("nowhere",), ("nowhere",)))])

    def test_each_for_an_or(self):
        no = ("nowhere",)
        self.assert_shown("c", "a | b", ("each", (no, no)), "no")
        self.assert_nothing("c", "a | b", [("each", (no,)), ("each", (no, no, no)), ("each", no), ("one", 0, no),
                                           ("one", 1, no), ("each", ("nowhere", "nowhere")), ("each", (no, ()))])
        self.assert_nothing("b", "a | b", [("each", (no, no)), ("each", (no, ("stands", (0,))))])

    def test_each_does_not_show_what_one_shows(self):
        no = ("nowhere",)
        # No part of the "and" matches; but that it does not match is shown by one part.
        self.assert_nothing("c", "a b", [("each", (no, no))])
        self.assert_shown("c", "a b", ("one", 0, no), "no")
        self.assert_shown("c", "a b", ("one", 1, no), "no")
        yes = ("stands", (0,))
        also = ("stands", (1,))
        self.assert_nothing("ab", "a | b", [("each", (yes, also))])
        self.assert_shown("ab", "a | b", ("one", 0, yes), "yes")
        self.assert_shown("ab", "a | b", ("one", 1, also), "yes")

    def test_an_index_that_is_wrong(self):
        yes = ("stands", (0,))
        self.assert_shown("a", "b | a | a", ("one", 1, yes), "yes")
        self.assert_shown("a", "b | a | a", ("one", 2, yes), "yes")
        self.assert_nothing("a", "b | a | a", [("one", index, yes) for index in (0, -1, -2, -3, -4, 3, 4, 10 ** 20)])
        self.assert_nothing("a", "b | a | a", [("one", index, yes) for index in ("1", "", (), (1,), ("one",))])
        no = ("nowhere",)
        self.assert_shown("a", "a b", ("one", 1, no), "no")
        self.assert_nothing("a", "a b", [("one", index, no) for index in (0, -1, -2, 2, 3, "1", (1,))])

    def test_one_with_more_or_fewer_items(self):
        yes = ("stands", (0,))
        self.assert_nothing("a", "a | b", [("one",), ("one", 0), ("one", yes), ("one", 0, yes, yes), ("one", 0, 0, yes),
                                           ("one", yes, 0), (0, yes), ("one", 0, "stands"), ("one", 0, 0), ("one", 0, ()),
                                           ("one", 0, ("one", 0, yes)), yes, (), "one", 0])
        self.assert_nothing("a", "a | b", [("one", 1, ("nowhere",)), ("one", 0, ("nowhere",))])

    def test_places_that_are_true_and_false(self):
        self.assert_nothing("aa", '"a a"', [("stands", (False, True)), ("stands", (0, True))])
        self.assert_nothing("aa", "a | a", [("one", True, ("stands", (0,)))])

    def test_made_trees(self):
        chance = random.Random(62)
        counts = {"yes": 0, "no": 0, None: 0}
        for _ in range(4000):
            document = tuple(chance.choice(TEXTS) for _ in range(chance.randrange(7)))
            question = made_question(chance, 8)
            answer, found = evidence_plainly(document, question)
            if len(found) >= 200:
                continue
            evidence = chance.choice(found)
            for _ in range(chance.randrange(3)):
                evidence = changed(chance, evidence)
            expected = None
            if evidence in found:
                expected = "yes" if answer else "no"
            shown = check_evidence(document, question, evidence)
            self.assertEqual(shown, expected, (document, question, evidence))
            counts[shown] += 1
        self.assertGreater(min(counts.values()), 500, counts)

    def test_evidence_that_is_strange(self):
        chance = random.Random(63)
        for evidence in STRANGE:
            for _ in range(60):
                document = tuple(chance.choice(TEXTS) for _ in range(chance.randrange(4)))
                question = made_question(chance, 5)
                answer, found = evidence_plainly(document, question)
                expected = None
                if evidence in found:
                    expected = "yes" if answer else "no"
                self.assertEqual(check_evidence(document, question, evidence), expected, (document, question, evidence))
