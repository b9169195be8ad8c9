"""[m7], [m8]: the judge, who accepts a paper or not, and collisions."""

import random
import unittest

from making import QUESTIONS, SMALL, SMALL_LEAVES, after_telling, made_changes, made_question
from plain import (answer_plainly, digest_plainly, entry_plainly, leaves_plainly, nodes_plainly, paper_plainly,
                   row_plainly, sides_plainly, stretches_plainly, sum_plainly, tree_plainly)
from timeshelf.errors import WrongPaper
from timeshelf.index import Index
from timeshelf.judge import collision, judged
from timeshelf.papers import digest, paper_of
from timeshelf.questions import read_question

MODULUS = 2 ** 31


def index_of(changes, endings=()):
    return after_telling(Index(endings), changes)


def entries(leaves, *stretches):
    """The paper with these stretches of the leaves, told by their first and last index."""
    return [entry_plainly(leaves, first, last, MODULUS) for first, last in stretches]


class Judged(unittest.TestCase):
    def assert_judged(self, leaves, text, paper, answer):
        """The paper is accepted for the digest of the leaves, with this answer."""
        found = judged(digest_plainly(leaves, MODULUS), read_question(text), paper)
        self.assertEqual(found, answer)

    def assert_wrong(self, leaves, text, paper, at):
        """The paper is not accepted for the digest of the leaves: this entry is wrong."""
        self.assert_wrong_for(digest_plainly(leaves, MODULUS), text, paper, at)

    def assert_wrong_for(self, told, text, paper, at):
        with self.assertRaises(WrongPaper) as caught:
            judged(told, read_question(text), paper)
        self.assertEqual(caught.exception.at, at, (told, text, paper))


class Accepted(Judged):
    def test_by_hand(self):
        self.assert_judged(SMALL_LEAVES, "mill", entries(SMALL_LEAVES, (2, 5)), {"a": (5, 9), "b": (3,)})
        self.assert_judged(SMALL_LEAVES, "mills", entries(SMALL_LEAVES, (4, 6)), {"a": (5, 9)})
        self.assert_judged(SMALL_LEAVES, "weir", entries(SMALL_LEAVES, (7, 8)), {"b": (3,)})
        self.assert_judged(SMALL_LEAVES, "zoo", entries(SMALL_LEAVES, (8, 8)), {})
        self.assert_judged(SMALL_LEAVES, "nil", entries(SMALL_LEAVES, (5, 6)), {})
        self.assert_judged(SMALL_LEAVES, "m*", entries(SMALL_LEAVES, (2, 6)), {"a": (5, 9), "b": (3,)})
        self.assert_judged(SMALL_LEAVES, "@", entries(SMALL_LEAVES, (0, 3)), {"a": (5,), "b": (3,)})
        self.assert_judged(SMALL_LEAVES, "-mill", entries(SMALL_LEAVES, (0, 3), (2, 5)), {"a": (9,)})
        self.assert_judged(SMALL_LEAVES, '"mill* old"', entries(SMALL_LEAVES, (2, 6), (5, 8)), {"a": (5, 9)})
        self.assert_judged(SMALL_LEAVES, "-@", [], {})

    def test_leaves_of_other_patterns_count_at_a_stretch_of_their_own_only_once(self):
        # The stretch of "mill" has the posting of "mills" behind it, that of "mills" the one of "mill" ahead.
        self.assert_judged(SMALL_LEAVES, "mill mills", entries(SMALL_LEAVES, (2, 5), (4, 6)), {"a": (5, 9)})
        self.assert_judged(SMALL_LEAVES, "mill -mills", entries(SMALL_LEAVES, (2, 5), (4, 6)), {"b": (3,)})

    def test_no_leaves(self):
        for question in QUESTIONS:
            self.assertEqual(judged((100, 0, 0), question, []), {})
        self.assert_wrong_for((100, 0, 0), "mill", entries(SMALL_LEAVES, (2, 5)), 1)
        self.assert_wrong_for((100, 0, 0), "mill", [(0, (), ())], 1)
        self.assert_wrong_for((100, 0, 0), "@", [(0, (), ())], 1)
        self.assert_wrong_for((100, 0, 0), "-mill", [(0, (), ()), (0, (), ())], 2)

    def test_one_leaf(self):
        leaves = [("a", 5, 7)]
        self.assert_judged(leaves, "@", [(0, (("a", 5, 7),), ())], {"a": (5, 7)})
        self.assert_judged(leaves, "mill", [(0, (("a", 5, 7),), ())], {})
        self.assert_judged(leaves, "-mill", [(0, (("a", 5, 7),), ())] * 2, {"a": (5, 7)})

    def test_leaves_that_no_index_has(self):
        # A posting without places of versions, and postings of a version that is not among the places.
        leaves = [("mill", "a", 5, 9, (0,))]
        self.assert_judged(leaves, "mill", entries(leaves, (0, 0)), {"a": (5, 9)})
        self.assert_judged(leaves, "-mill", entries(leaves, (0, 0), (0, 0)), {})
        self.assert_judged(leaves, "-@ | @", entries(leaves, (0, 0)), {})
        leaves = [("a", 5, 8), ("mill", "a", 5, 9, (0,))]
        self.assert_judged(leaves, "@", entries(leaves, (0, 1)), {"a": (5, 8)})
        self.assert_judged(leaves, "-weir", entries(leaves, (0, 1), (1, 1)), {"a": (5, 8)})
        # Versions that overlap, and two ends for one start.
        leaves = [("a", 5, 8), ("ab", "a", 5, None, (0,)), ("ac", "a", 5, 9, (0,)), ("ad", "a", 7, 11, (0,))]
        self.assert_judged(leaves, "a*", entries(leaves, (0, 3)), {"a": (5,)})
        self.assert_judged(leaves, "ac | ad", entries(leaves, (1, 3), (2, 3)), {"a": (5, 11)})

    def test_large_times_and_places(self):
        leaves = [("a", 5, 10 ** 9), ("mill", "a", 5, 10 ** 9, (0, 10 ** 9))]
        self.assert_judged(leaves, "mill", entries(leaves, (0, 1)), {"a": (5, 10 ** 9)})

    def test_the_arguments_are_not_modified_and_the_answer_is_new(self):
        paper = entries(SMALL_LEAVES, (0, 3), (2, 5))
        told = digest_plainly(SMALL_LEAVES, MODULUS)
        question = read_question("-mill")
        judged(told, question, paper).clear()
        self.assertEqual(paper, entries(SMALL_LEAVES, (0, 3), (2, 5)))
        self.assertEqual(judged(told, question, paper), {"a": (9,)})

    def test_behind_each_change(self):
        chance = random.Random(121)
        for _ in range(12):
            endings = chance.choice([(), (("b", 1),)])
            changes = made_changes(chance, chance.randrange(1, 16))
            index = Index(endings)
            for at, change in enumerate(changes):
                index.tell(*change)
                for question in QUESTIONS + [made_question(chance, 8) for _ in range(3)]:
                    answer = answer_plainly(changes[:at + 1], endings, question)
                    for modulus in (2, 97, MODULUS):
                        paper = paper_of(index, question, modulus)
                        self.assertEqual(judged(digest(index, modulus), question, paper), answer)
                        self.assertIsNone(collision(index, modulus, paper))


class Entries(Judged):
    def test_an_entry_left_out_or_told_twice(self):
        for text in ("mill", "mill old", "-mill", "-mill -old | @", "@"):
            paper = paper_plainly(SMALL_LEAVES, read_question(text), MODULUS)
            for at in range(len(paper)):
                self.assert_wrong(SMALL_LEAVES, text, paper[:at] + paper[at + 1:], len(paper) - 1)
                self.assert_wrong(SMALL_LEAVES, text, paper[:at + 1] + paper[at:], len(paper) + 1)
            self.assert_wrong(SMALL_LEAVES, text, [], 0)
        self.assert_wrong(SMALL_LEAVES, "-@", entries(SMALL_LEAVES, (0, 3)), 1)

    def test_the_number_of_entries_is_looked_at_first(self):
        wrong = (0, (), ())
        self.assert_wrong(SMALL_LEAVES, "mill old", [wrong], 1)
        self.assert_wrong(SMALL_LEAVES, "mill old", [wrong] * 3, 3)
        self.assert_wrong(SMALL_LEAVES, "mill old", [wrong] * 2, 0)
        self.assert_wrong_for((MODULUS, 0, 0), "mill old", [wrong] * 2, 2)

    def test_the_first_wrong_entry_is_told(self):
        right = paper_plainly(SMALL_LEAVES, read_question("-mill -old -weir"), MODULUS)
        wrong = (0, (), ())
        for bad in ([0], [1], [2], [3], [1, 2], [0, 3], [2, 3], [0, 1, 2, 3]):
            paper = [wrong if at in bad else entry for at, entry in enumerate(right)]
            self.assert_wrong(SMALL_LEAVES, "-mill -old -weir", paper, bad[0])

    def test_entries_in_another_order(self):
        right = paper_plainly(SMALL_LEAVES, read_question("-mill -weir"), MODULUS)
        self.assert_wrong(SMALL_LEAVES, "-mill -weir", [right[1], right[0], right[2]], 0)
        self.assert_wrong(SMALL_LEAVES, "-mill -weir", [right[0], right[2], right[1]], 1)

    def test_no_leaf(self):
        first, _, told = entries(SMALL_LEAVES, (2, 5))[0]
        for at in (first, 0, 8, 9, -1):
            self.assert_wrong(SMALL_LEAVES, "mill", [(at, (), told)], 0)
            self.assert_wrong(SMALL_LEAVES, "mill", [(at, (), ())], 0)

    def test_a_first_index_that_is_another(self):
        for text in ("mill", "@", "weir", "zoo"):
            first, shown, told = paper_plainly(SMALL_LEAVES, read_question(text), MODULUS)[0]
            for other in (-9, -2, -1, 0, 1, 2, 3, 4, 5, 6, 7, 8, 9, 10, 100, 10 ** 9):
                if other != first:
                    self.assert_wrong(SMALL_LEAVES, text, [(other, shown, told)], 0)

    def test_a_first_index_below_0(self):
        # All else is right: the stretch of all leaves, one too many.
        leaves = [("a", 5, None), ("b", 5, None)]
        for first, shown in ((-1, leaves[:1]), (-1, leaves), (-2, leaves), (-2, leaves[:1])):
            for told in (((None, None),), ((leaves[0], None),), ()):
                self.assert_wrong(leaves, "@", [(first, tuple(shown), told)], 0)

    def test_a_last_index_that_is_not_less_than_the_number_of_leaves(self):
        # The digest tells fewer leaves than the tree has of which it has the top.
        for count in (7, 8):
            told = (MODULUS, count, digest_plainly(SMALL_LEAVES, MODULUS)[2])
            self.assert_wrong_for(told, "weir", entries(SMALL_LEAVES, (7, 8)), 0)
        levels = tree_plainly(SMALL_LEAVES, MODULUS)
        self.assert_wrong(SMALL_LEAVES, "zoo", [(9, (SMALL_LEAVES[8],), sides_plainly(levels, 8, 8))], 0)
        self.assert_wrong(SMALL_LEAVES, "zoo", [(8, (SMALL_LEAVES[8], ("z", "z", 1, 2, (0,))), sides_plainly(levels, 8, 8))], 0)


class Forms(Judged):
    """Trees in which one leaf is none: the sums are all right for it."""

    def assert_bad_leaf(self, bad):
        """A leaf that has a row is not accepted, although its place, the order and the top are right."""
        for text in ("@", "a*", "b*", "b", "z"):
            self.assert_wrong([bad], text, entries([bad], (0, 0)), 0)
        if len(bad) == 3:
            leaves = sorted([("a", 0, 1), bad, ("zzzzzzzz", 100000, None)], key=lambda leaf: leaf[:2])
            self.assert_wrong(leaves, "@", entries(leaves, (0, 2)), 0)
        else:
            others = [("b", "a", 0, 1, (0,)), ("zzzzzzzzzzzz", "zzzzzzzz", 100000, None, (0,))]
            leaves = sorted(others + [bad], key=lambda leaf: leaf[:3])
            self.assert_wrong(leaves, "b*", entries(leaves, (0, 2)), 0)

    def assert_no_leaf(self, bad):
        """What has no row."""
        for at in range(2, 6):
            first, shown, told = entries(SMALL_LEAVES, (2, 5))[0]
            changed = shown[:at - 2] + (bad,) + shown[at - 1:]
            self.assert_wrong(SMALL_LEAVES, "mill", [(first, changed, told)], 0)
        self.assert_wrong(SMALL_LEAVES, "@", [(0, tuple(SMALL_LEAVES[:3]) + (bad,), ((None,) * 2,) * 4)], 0)
        self.assert_wrong([("a", 5, None)], "@", [(0, (bad,), ())], 0)

    def test_leaves_like_these_are_accepted(self):
        leaves = [("a", 0, 1), ("zzzzzzzz", 100000, None)]
        self.assert_judged(leaves, "@", entries(leaves, (0, 1)), {"a": (0, 1), "zzzzzzzz": (100000,)})
        leaves = [("a", 0, 1), ("b", "a", 0, 1, (0, 1)), ("zzzzzzzzzzzz", "zzzzzzzz", 100000, None, (5,))]
        self.assert_judged(leaves, "b", entries(leaves, (0, 2)), {"a": (0, 1)})
        self.assert_judged(leaves, "@", entries(leaves, (0, 1)), {"a": (0, 1)})

    def test_leaves_of_another_kind(self):
        for bad in ((), ("a",), ("a", 5), ("a", 5, None, (0,)), ("mill", "a", 5, None), ("a", 5, 9, 9),
                    ("mill", "a", 5, 9, (0,), (1,)), ("mill", "a", 5, 9, (0,), 5), (1, 2, 3), (None,) * 3, (None,) * 5,
                    ((), (), ()), ("mill", "a", 5, 9, 0), ("mill", "a", 5, 9, "0"), ("mill", "a", 5, 9, None),
                    ("mill", "a", 5, 9, [0]), ("mill", "a", 5, 9, ("0",)), ("mill", "a", 5, 9, (0, None)),
                    ("mill", "a", 5, 9, ((0,),)), (("mill", "a", 5, 9, (0,)),) * 3):
            self.assert_no_leaf(bad)

    def test_a_key_or_a_word_that_is_none(self):
        for name in (None, 5, True, ("a",), ["a"], ()):
            self.assert_no_leaf((name, 5, None))
            self.assert_no_leaf(("mill", name, 5, None, (0,)))
            self.assert_no_leaf((name, "b", 5, None, (0,)))
        for name in ("", "B", "b b", "b-", "b\n", "\xe9", "bbbbbbbbbbbbb"):
            self.assert_bad_leaf((name, 5, None))
            self.assert_bad_leaf(("b", name, 5, None, (0,)))
            self.assert_bad_leaf((name, "b", 5, None, (0,)))
        # A key has at most 8 characters, a word 12.
        self.assert_bad_leaf(("bbbbbbbbb", 5, None))
        self.assert_bad_leaf(("b", "bbbbbbbbb", 5, None, (0,)))

    def test_the_longest_key_and_word(self):
        leaves = [("a", 0, 1), ("bbbbbbbb", 5, None), ("bbbbbbbbbbbb", "bbbbbbbb", 5, None, (0,))]
        self.assert_judged(leaves, "b*", entries(leaves, (1, 2)), {"bbbbbbbb": (5,)})

    def test_a_start_below_0_and_ends_that_are_not_greater(self):
        for start, end in ((-1, None), (-1, 5), (-5, -3), (5, 5), (5, 4), (5, 0), (5, -1), (0, 0)):
            self.assert_bad_leaf(("b", start, end))
            self.assert_bad_leaf(("b", "b", start, end, (0,)))
        for start, end in ((None, None), ("5", None), ((5,), None), (5, "9"), (5, ()), (5, (9,)), (None, 5)):
            self.assert_no_leaf(("b", start, end))
            self.assert_no_leaf(("b", "b", start, end, (0,)))

    def test_places_that_do_not_rise_no_place_and_places_below_0(self):
        for places in ((), (0, 0), (1, 0), (0, 2, 1), (0, 1, 1), (5, 6, 5), (-1,), (-1, 0), (-2, -1)):
            self.assert_bad_leaf(("b", "b", 5, None, places))

    def test_leaves_out_of_order_or_told_twice(self):
        places = [("a", 0, 1), ("a", 5, None), ("b", 5, None)]
        postings = [("b", "a", 0, 1, (0,)), ("b", "a", 5, None, (0,)), ("b", "b", 5, None, (0,)),
                    ("bc", "a", 0, 1, (1,))]
        self.assert_judged(places + postings, "b*", entries(places + postings, (2, 6)), {"a": (0, 1, 5), "b": (5,)})
        for at in range(2):
            turned = places[:at] + [places[at + 1], places[at]] + places[at + 2:] + postings
            self.assert_wrong(turned, "@", entries(turned, (0, 3)), 0)
            twice = places[:at + 1] + places[at:] + postings
            self.assert_wrong(twice, "@", entries(twice, (0, 4)), 0)
        for at in range(3):
            turned = places + postings[:at] + [postings[at + 1], postings[at]] + postings[at + 2:]
            self.assert_wrong(turned, "b*", entries(turned, (2, 6)), 0)
            twice = places + postings[:at + 1] + postings[at:]
            self.assert_wrong(twice, "b*", entries(twice, (2, 7)), 0)
        mixed = places[:2] + postings[:2] + places[2:] + postings[2:]
        self.assert_wrong(mixed, "@", entries(mixed, (0, 4)), 0)
        self.assert_wrong(mixed, "b*", entries(mixed, (1, 6)), 0)
        self.assert_wrong(postings + places, "b*", entries(postings + places, (0, 6)), 0)

    def test_leaves_of_one_key_and_start_with_different_ends_or_places(self):
        places = [("a", 0, 1), ("a", 0, 2)]
        self.assert_wrong(places, "@", entries(places, (0, 1)), 0)
        places = [("a", 0, 1), ("a", 0, None)]
        self.assert_wrong(places, "@", entries(places, (0, 1)), 0)
        postings = [("a", 0, 1), ("b", "a", 0, 1, (0,)), ("b", "a", 0, 1, (1,))]
        self.assert_wrong(postings, "b", entries(postings, (0, 2)), 0)
        postings = [("a", 0, 1), ("b", "a", 0, 1, (0,)), ("b", "a", 0, None, (1,))]
        self.assert_wrong(postings, "b", entries(postings, (0, 2)), 0)

    def test_starts_are_in_the_order_of_numbers(self):
        leaves = [("a", 9, 10), ("a", 10, 11), ("b", "a", 9, 10, (0,)), ("b", "a", 10, 11, (0,))]
        self.assert_judged(leaves, "b", entries(leaves, (1, 3)), {"a": (9, 11)})
        turned = [leaves[1], leaves[0], leaves[3], leaves[2]]
        self.assert_wrong(turned, "b", entries(turned, (1, 3)), 0)
        self.assert_wrong(turned, "@", entries(turned, (0, 2)), 0)


class Stretches(Judged):
    def test_a_leaf_left_out_or_put_in_at_either_end(self):
        texts = ["mill", "mills", "weir", "zoo", "abc", "nil*", "m*", "@", "-mill", "old -weir*", "mill | -zoo"]
        for leaves in (SMALL_LEAVES, SMALL_LEAVES[:3], SMALL_LEAVES[:4], SMALL_LEAVES[:1]):
            for text in texts:
                question = read_question(text)
                stretches = stretches_plainly(leaves, question)
                judged(digest_plainly(leaves, MODULUS), question, entries(leaves, *stretches))
                for at, (first, last) in enumerate(stretches):
                    for other in ((first + 1, last), (first, last - 1), (first - 1, last), (first, last + 1),
                                  (first + 1, last + 1), (first - 1, last - 1)):
                        if 0 <= other[0] <= other[1] < len(leaves):
                            paper = entries(leaves, *stretches[:at], other, *stretches[at + 1:])
                            self.assert_wrong(leaves, text, paper, at)

    def test_only_the_right_stretch_is_accepted(self):
        for leaves in (SMALL_LEAVES, SMALL_LEAVES[:4], SMALL_LEAVES[:3]):
            for text in ("mill", "mills", "weir", "zoo", "abc", "nil*", "m*", "@"):
                right = stretches_plainly(leaves, read_question(text))
                for first in range(len(leaves)):
                    for last in range(first, len(leaves)):
                        if [(first, last)] != right:
                            self.assert_wrong(leaves, text, entries(leaves, (first, last)), 0)

    def test_all_versions(self):
        # Two postings, none although there are some, a place left out at the beginning.
        self.assert_judged(SMALL_LEAVES, "@", entries(SMALL_LEAVES, (0, 3)), {"a": (5,), "b": (3,)})
        self.assert_wrong(SMALL_LEAVES, "@", entries(SMALL_LEAVES, (0, 4)), 0)
        self.assert_wrong(SMALL_LEAVES, "@", entries(SMALL_LEAVES, (0, 2)), 0)
        self.assert_wrong(SMALL_LEAVES, "@", entries(SMALL_LEAVES, (1, 3)), 0)
        self.assert_wrong(SMALL_LEAVES, "@", entries(SMALL_LEAVES, (3, 3)), 0)
        self.assert_judged(SMALL_LEAVES[:3], "@", entries(SMALL_LEAVES[:3], (0, 2)), {"a": (5,), "b": (3,)})

    def test_a_pattern(self):
        self.assert_judged(SMALL_LEAVES, "mill", entries(SMALL_LEAVES, (2, 5)), {"a": (5, 9), "b": (3,)})
        # Two leaves ahead, two behind, none of the one or the other.
        self.assert_wrong(SMALL_LEAVES, "mill", entries(SMALL_LEAVES, (1, 5)), 0)
        self.assert_wrong(SMALL_LEAVES, "mill", entries(SMALL_LEAVES, (2, 6)), 0)
        self.assert_wrong(SMALL_LEAVES, "mill", entries(SMALL_LEAVES, (3, 5)), 0)
        self.assert_wrong(SMALL_LEAVES, "mill", entries(SMALL_LEAVES, (2, 4)), 0)
        # A place and a posting ahead; two of them behind, of one word.
        self.assert_wrong(SMALL_LEAVES, "mills", entries(SMALL_LEAVES, (2, 6)), 0)
        self.assert_wrong(SMALL_LEAVES, "mills", entries(SMALL_LEAVES, (4, 7)), 0)

    def test_a_word_that_does_not_fit_in_between(self):
        leaves = [("a", 0, 1), ("b", "a", 0, 1, (0,)), ("c", "a", 0, 1, (1,)), ("bc", "a", 0, 1, (2,)), ("d", "a", 0, 1, (3,))]
        self.assert_wrong(leaves, "b*", entries(leaves, (0, 4)), 0)
        self.assert_wrong(leaves, "b*", entries(leaves, (0, 3)), 0)
        leaves = [("a", 0, 1), ("ab", "a", 0, 1, (0,)), ("b", "a", 0, 1, (1,)), ("c", "a", 0, 1, (2,))]
        self.assert_wrong(leaves, "b", entries(leaves, (0, 3)), 0)
        self.assert_judged(leaves, "b", entries(leaves, (1, 3)), {"a": (0, 1)})
        self.assert_wrong(leaves, "a", entries(leaves, (0, 2)), 0)
        self.assert_judged(leaves, "a", entries(leaves, (0, 1)), {})

    def test_the_entry_of_another_pattern(self):
        self.assert_wrong(SMALL_LEAVES, "mill", entries(SMALL_LEAVES, (4, 6)), 0)
        self.assert_wrong(SMALL_LEAVES, "mill", entries(SMALL_LEAVES, (2, 6)), 0)
        self.assert_wrong(SMALL_LEAVES, "mill*", entries(SMALL_LEAVES, (2, 5)), 0)
        self.assert_wrong(SMALL_LEAVES, "mill", entries(SMALL_LEAVES, (0, 3)), 0)
        self.assert_wrong(SMALL_LEAVES, "@", entries(SMALL_LEAVES, (2, 5)), 0)


class Tops(Judged):
    def test_sides_that_are_wrong(self):
        for text in ("mill", "mills", "zoo", "@", "nil"):
            first, shown, told = paper_plainly(SMALL_LEAVES, read_question(text), MODULUS)[0]
            self.assertEqual(len(told), 4)
            changed = [told[:-1], told + ((None, None),), told + ((None, 5),), (), told[1:], told[::-1]]
            for height, level in enumerate(told):
                for at, side in enumerate(level):
                    for other in (None, 5, 0) if side is None else (None, side + 1, side - 1):
                        other_level = (other, level[1]) if at == 0 else (level[0], other)
                        changed.append(told[:height] + (other_level,) + told[height + 1:])
            for sides in changed:
                if sides != told:
                    self.assert_wrong(SMALL_LEAVES, text, [(first, shown, sides)], 0)

    def test_another_top(self):
        modulus, count, top = digest_plainly(SMALL_LEAVES, MODULUS)
        for text in ("mill", "@", "zoo", "-mill"):
            paper = paper_plainly(SMALL_LEAVES, read_question(text), MODULUS)
            for other in (top + 1, top - 1, 0, top + MODULUS):
                self.assert_wrong_for((modulus, count, other), text, paper, 0)
            self.assert_wrong_for((modulus - 1, count, top), text, paper, 0)

    def test_another_number_of_leaves(self):
        modulus, count, top = digest_plainly(SMALL_LEAVES, MODULUS)
        for text in ("mill", "@", "zoo", "weir"):
            paper = paper_plainly(SMALL_LEAVES, read_question(text), MODULUS)
            for other in (1, 2, 3, 4, 5, 6, 7, 8, 17, 18, 100, 10 ** 9):
                self.assert_wrong_for((modulus, other, top), text, paper, 0)
            self.assert_wrong_for((modulus, 0, top), text, paper, 1)
        # With ten leaves the last one is behind the stretch of "weir".
        self.assert_wrong_for((modulus, 10, top), "weir", paper_plainly(SMALL_LEAVES, read_question("weir"), MODULUS), 0)

    def test_a_leaf_that_is_changed(self):
        for at, other in ((2, ("b", 4, None)), (3, ("mill", "a", 5, 8, (0,))), (3, ("mill", "a", 5, 9, (1,))),
                          (4, ("mill", "b", 3, None, (0, 5))), (5, ("mills", "a", 5, None, (2,))), (5, ("mim", "a", 5, 9, (2,)))):
            leaves = SMALL_LEAVES[:at] + [other] + SMALL_LEAVES[at + 1:]
            _, shown, _ = entries(leaves, (2, 5))[0]
            first, _, told = entries(SMALL_LEAVES, (2, 5))[0]
            self.assert_wrong(SMALL_LEAVES, "mill", [(first, shown, told)], 0)
            # It is right for the tree of such leaves.
            judged(digest_plainly(leaves, MODULUS), read_question("mill"), entries(leaves, (2, 5)))

    def test_the_paper_of_another_modulus(self):
        paper = paper_plainly(SMALL_LEAVES, read_question("mill"), 1000)
        self.assert_wrong(SMALL_LEAVES, "mill", paper, 0)
        self.assertEqual(judged(digest_plainly(SMALL_LEAVES, 1000), read_question("mill"), paper), {"a": (5, 9), "b": (3,)})


def rows_of_paper(index_leaves, first, shown, told, modulus):
    """For each (height, index) that the entry leads to the sum and its row; None if the sides are not right."""
    last = first + len(shown) - 1
    if not shown or first < 0 or last >= len(index_leaves):
        return None
    levels = tree_plainly(index_leaves, modulus)
    expected = sides_plainly(levels, first, last)
    if [[side is None for side in level] for level in told] != [[side is None for side in level] for level in expected]:
        return None
    known = {(0, first + at): (sum_plainly(row_plainly(leaf), modulus), row_plainly(leaf)) for at, leaf in enumerate(shown)}
    for height, (left, right) in enumerate(told):
        begin, end = first >> height, last >> height
        level = {at: known[height, at] for at in range(begin, end + 1)}
        level.update({begin - 1: (left, None)} if left is not None else {})
        level.update({end + 1: (right, None)} if right is not None else {})
        for at in range(first >> height + 1, (last >> height + 1) + 1):
            row = (3, level[2 * at][0], level[2 * at + 1][0]) if 2 * at + 1 in level else None
            known[height + 1, at] = level[2 * at] if row is None else (sum_plainly(row, modulus), row)
    return known


def collision_plainly(leaves, modulus, paper):
    """[m8]: the first of all the sums that are made of different rows, from the top down, from left to right."""
    nodes = nodes_plainly(leaves, modulus)
    for first, shown, told in paper:
        known = rows_of_paper(leaves, first, shown, told, modulus) or {}
        for place in sorted(known, key=lambda place: (-place[0], place[1])):
            if known[place][0] == nodes[place][0] and known[place][1] != nodes[place][1]:
                return (nodes[place][1], known[place][1])
    return None


def changed_leaf(chance, leaf):
    """A leaf with another end, start or other places."""
    key, start, end = leaf[-4:-1] if len(leaf) == 5 else leaf
    what = chance.randrange(3 if len(leaf) == 5 else 2)
    if what == 0:
        end = chance.choice([None, start + 1, start + 2, start + 5])
    if what == 1:
        start = chance.randrange(start + 1 if end is None else end)
    if len(leaf) == 3:
        return (key, start, end)
    places = tuple(sorted(chance.sample(range(7), chance.randrange(1, 4)))) if what == 2 else leaf[4]
    return (leaf[0], key, start, end, places)


class Collisions(Judged):
    def assert_collision(self, found, leaves, modulus):
        """A collision, the row of the index first."""
        rows = [row for _, row in nodes_plainly(leaves, modulus).values()]
        self.assertIsInstance(found, tuple)
        one, other = found
        self.assertIn(one, rows)
        self.assertNotEqual(one, other)
        self.assertIsInstance(other, tuple)
        self.assertEqual(sum_plainly(one, modulus), sum_plainly(other, modulus))

    def test_none_for_the_right_paper(self):
        index = index_of(SMALL)
        for modulus in (2, 3, 6, MODULUS):
            for question in QUESTIONS:
                self.assertIsNone(collision(index, modulus, paper_of(index, question, modulus)))
            self.assertIsNone(collision(index, modulus, []))

    def test_none_where_all_sums_are_different(self):
        index = index_of(SMALL)
        first, shown, told = entries(SMALL_LEAVES, (2, 5))[0]
        changed = (shown[0], ("mill", "a", 5, 9, (1,))) + shown[2:]
        self.assertIsNone(collision(index, MODULUS, [(first, changed, told)]))

    def test_an_index_without_leaves(self):
        self.assertIsNone(collision(Index(()), 2, []))
        self.assertIsNone(collision(Index(()), 2, entries(SMALL_LEAVES, (2, 5))))

    def test_one_leaf_by_hand(self):
        # The last number of the row is the end: 7 more makes no difference for the modulus 7.
        index = index_of([(5, "a", ""), (9, "a", None)])
        paper = [(0, (("a", 5, 16),), ())]
        self.assertEqual(judged(digest(index, 7), ("all",), paper), {"a": (5, 16)})
        self.assertEqual(collision(index, 7, paper), ((1, 1, 97, 5, 1, 9), (1, 1, 97, 5, 1, 16)))
        self.assertIsNone(collision(index, 7, [(0, (("a", 5, 15),), ())]))

    def test_sides_by_hand(self):
        # The sides can be any integers: the leaf is the right one here, and the answer, too.
        leaves = [("a", 5, None), ("b", 5, None)]
        index = index_of([(5, "a", ""), (5, "b", "")])
        low = tree_plainly(leaves, 5)[0]
        paper = [(1, (leaves[1],), ((low[0] + 5, None),))]
        self.assertEqual(judged(digest(index, 5), read_question("mill"), paper), {})
        self.assertEqual(collision(index, 5, paper), ((3, low[0], low[1]), (3, low[0] + 5, low[1])))

    def test_the_order(self):
        # Four leaves, of which three have another end; and sums of the two in the middle that are the same again.
        changes = [(time, key, text) for key in "abcd" for time, text in ((5, ""), (9, None))]
        index = index_of(changes)
        right = [(key, 5, 9) for key in "abcd"]
        none = ((None, None), (None, None))

        def found(ends):
            shown = tuple((key, 5, end) for key, end in zip("abcd", ends))
            self.assertIsNotNone(judged(digest(index, 7), ("all",), [(0, shown, none)]))
            return collision(index, 7, [(0, shown, none)])

        self.assertIsNone(found((9, 9, 9, 9)))
        for at in range(4):
            # From the left to the right.
            ends = tuple(9 if before < at else 16 for before in range(4))
            self.assertEqual(found(ends), (row_plainly(right[at]), row_plainly(right[at][:2] + (16,))))
        # Higher levels come first: the sum of the pair on the right is that of the index, its leaves are not.
        _, _, z, w = tree_plainly(right, 7)[0]
        met = 0
        for end in range(10, 16):
            for other in range(10, 16):
                p, q = [sum_plainly(row_plainly((key, 5, ending)), 7) for key, ending in (("c", end), ("d", other))]
                if sum_plainly((3, p, q), 7) == sum_plainly((3, z, w), 7):
                    met += 1
                    self.assertEqual(found((9, 9, end, other)), ((3, z, w), (3, p, q)))
                    # The first leaf is told by a sum of the index, too.
                    self.assertEqual(found((16, 9, end, other)), ((3, z, w), (3, p, q)))
        self.assertGreater(met, 0)

    def test_a_sum_that_goes_up_as_it_is(self):
        # Three leaves: the sum of the last one is in the level of the pair, too, and so before the first leaf.
        changes = [(time, key, text) for key in "abc" for time, text in ((5, ""), (9, None))]
        index = index_of(changes)
        none = ((None, None), (None, None))
        paper = [(0, (("a", 5, 16), ("b", 5, 9), ("c", 5, 16)), none)]
        self.assertEqual(collision(index, 7, paper), (row_plainly(("c", 5, 9)), row_plainly(("c", 5, 16))))
        paper = [(0, (("a", 5, 16), ("b", 5, 9), ("c", 5, 9)), none)]
        self.assertEqual(collision(index, 7, paper), (row_plainly(("a", 5, 9)), row_plainly(("a", 5, 16))))

    def test_entries_in_order_and_those_that_are_passed_over(self):
        index = index_of([(time, key, text) for key in "ab" for time, text in ((5, ""), (9, None))])
        low = tree_plainly([("a", 5, 9), ("b", 5, 9)], 7)[0]
        one = (0, (("a", 5, 16),), ((None, low[1]),))
        other = (1, (("b", 5, 16),), ((low[0], None),))
        of_one = (row_plainly(("a", 5, 9)), row_plainly(("a", 5, 16)))
        of_other = (row_plainly(("b", 5, 9)), row_plainly(("b", 5, 16)))
        right = (0, (("a", 5, 9), ("b", 5, 9)), ((None, None),))
        self.assertEqual(collision(index, 7, [one, other]), of_one)
        self.assertEqual(collision(index, 7, [other, one]), of_other)
        self.assertEqual(collision(index, 7, [right, other, one]), of_other)
        for told in ((), ((None, None),), ((low[1], None),), ((low[1], low[1]),), ((None, low[1]),) * 2,
                     ((None, low[1]), (None, None))):
            self.assertIsNone(collision(index, 7, [(0, one[1], told)]))
            self.assertEqual(collision(index, 7, [(0, one[1], told), other]), of_other)
        for bad in ((0, (), ((None, low[1]),)), (-1, one[1], ((low[0], None),)), (2, one[1], ((None, None),)),
                    (0, one[1] * 3, ((None, None),))):
            self.assertIsNone(collision(index, 7, [bad]))
            self.assertEqual(collision(index, 7, [bad, one]), of_one)
        # Nor has what is formed in another way than a leaf a row.
        for leaf in ((), (1, 2, 3), ("a", 5), ("a", "5", None), ("a", 5, "9"), ("a", "b", 5, 9), ("a", "b", 5, 9, 0),
                     ("a", "b", 5, 9, (None,)), (None, "b", 5, 9, (0,)), ("a", None, 5, 9, (0,)), ("a", True, None)):
            self.assertIsNone(collision(index, 7, [(0, (leaf,), ((None, low[1]),))]))
            self.assertEqual(collision(index, 7, [(0, (leaf,), ((None, low[1]),)), one]), of_one)

    def test_leaves_that_cannot_be_are_compared_too(self):
        index = index_of([(5, "a", ""), (9, "a", None)])
        self.assertEqual(collision(index, 7, [(0, (("a", 5, 2),), ())]), ((1, 1, 97, 5, 1, 9), (1, 1, 97, 5, 1, 2)))

    def test_accepted_papers_with_a_leaf_that_is_changed(self):
        chance = random.Random(122)
        accepted = 0
        for _ in range(400):
            modulus = chance.randrange(2, 7)
            changes = made_changes(chance, chance.randrange(1, 10))
            index = index_of(changes)
            leaves = leaves_plainly(changes, ())
            question = chance.choice(QUESTIONS + [made_question(chance, 5)])
            paper = paper_plainly(leaves, question, modulus)
            for at, (first, shown, told) in enumerate(paper):
                place = chance.randrange(len(shown))
                changed = shown[:place] + (changed_leaf(chance, shown[place]),) + shown[place + 1:]
                other = paper[:at] + [(first, changed, told)] + paper[at + 1:]
                self.assertEqual(collision(index, modulus, other), collision_plainly(leaves, modulus, other))
                try:
                    judged(digest(index, modulus), question, other)
                except WrongPaper as wrong:
                    self.assertEqual(wrong.at, at)
                    continue
                if changed != shown:
                    accepted += 1
                    self.assert_collision(collision(index, modulus, other), leaves, modulus)
        self.assertGreater(accepted, 60)

    def test_another_answer_gives_a_collision(self):
        chance = random.Random(123)
        others = 0
        for _ in range(500):
            modulus = chance.randrange(2, 7)
            changes = made_changes(chance, chance.randrange(1, 8))
            index = index_of(changes)
            leaves = leaves_plainly(changes, ())
            question = chance.choice(QUESTIONS)
            paper = []
            for first, shown, told in paper_plainly(leaves, question, modulus):
                shown = tuple(changed_leaf(chance, leaf) if chance.random() < 0.4 else leaf for leaf in shown)
                told = tuple(tuple(side if side is None else chance.choice([side, side + modulus, chance.randrange(modulus)])
                                   for side in level) for level in told)
                paper.append((first, shown, told))
            found = collision(index, modulus, paper)
            self.assertEqual(found, collision_plainly(leaves, modulus, paper))
            if found is not None:
                self.assert_collision(found, leaves, modulus)
            try:
                answer = judged(digest(index, modulus), question, paper)
            except WrongPaper:
                continue
            if answer != answer_plainly(changes, (), question):
                others += 1
                self.assertIsNotNone(found)
        self.assertGreater(others, 15)

    def test_the_index_and_the_paper_are_not_modified(self):
        index = index_of(SMALL)
        paper = entries(SMALL_LEAVES, (2, 5))
        collision(index, MODULUS, paper)
        self.assertEqual(paper, entries(SMALL_LEAVES, (2, 5)))
        self.assertEqual(digest(index, MODULUS), digest_plainly(SMALL_LEAVES, MODULUS))
