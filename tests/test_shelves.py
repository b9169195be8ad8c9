"""[s1] to [s4], with [c2] and [c5]: what a shelf takes, its histories, documents and plain answers."""

import random
import unittest

from making import QUESTIONS, after_telling, made_changes, made_question
from plain import (answer_plainly, document_plainly, history_plainly, keys_plainly, matches_plainly, times_plainly)
from timeshelf.errors import InvalidChange, NoSuchKey, TooMany
from timeshelf.questions import read_question
from timeshelf.shelves import Shelf
from timeshelf.times import is_in

S_ENDING = (("s", 3),)


def shelf_of(changes, endings=()):
    return after_telling(Shelf(endings), changes)


def full_shelf():
    """A shelf with 80 changes and 12 keys."""
    return shelf_of([(at, "k" + str(at % 12), "text " + str(at)) for at in range(80)])


class Telling(unittest.TestCase):
    def assert_refused(self, shelf, change, error, **fields):
        before = (shelf.changes(), shelf.known_keys(), shelf.endings(),
                  [shelf.history(key) for key in shelf.known_keys()])
        with self.assertRaises(error) as caught:
            shelf.tell(*change)
        self.assertEqual(vars(caught.exception), fields, change)
        after = (shelf.changes(), shelf.known_keys(), shelf.endings(),
                 [shelf.history(key) for key in shelf.known_keys()])
        self.assertEqual(before, after)

    def test_a_new_shelf(self):
        shelf = Shelf(S_ENDING)
        self.assertEqual(shelf.endings(), S_ENDING)
        self.assertEqual(shelf.changes(), [])
        self.assertEqual(shelf.known_keys(), [])
        self.assertEqual(shelf.plain_answer(("all",)), {})
        self.assertEqual(Shelf(()).endings(), ())

    def test_the_order_of_telling(self):
        told = [(9, "b", "x"), (3, "a", None), (9, "b", "y"), (0, "a", "z"), (3, "a", None)]
        shelf = shelf_of(told)
        self.assertEqual(shelf.changes(), told)
        self.assertEqual(shelf.known_keys(), ["a", "b"])

    def test_tell_returns_nothing(self):
        self.assertIsNone(Shelf(()).tell(0, "a", None))

    def test_keys_are_sorted_as_strings(self):
        shelf = shelf_of([(1, key, "x") for key in ("b", "9", "a1", "10", "a", "b")])
        self.assertEqual(shelf.known_keys(), ["10", "9", "a", "a1", "b"])

    def test_a_key_is_known_though_it_has_no_document(self):
        shelf = shelf_of([(5, "a", None)])
        self.assertEqual(shelf.known_keys(), ["a"])

    def test_changes_that_are_wrong(self):
        for shelf in (Shelf(()), shelf_of([(5, "a", "x"), (2, "a", None), (3, "b", "y")]), full_shelf()):
            for time in (-1, 100001, None, "5", True, (5,), [5]):
                self.assert_refused(shelf, (time, "a", "x"), InvalidChange, word="time")
            for key in ("", "abcdefghi", "A", "a b", None, 5, True, ("a",), ["a"], {}):
                self.assert_refused(shelf, (5, key, "x"), InvalidChange, word="key")
            for text in ("x" * 401, "\t", chr(37), 5, True, ("x",), ["x"], {}):
                self.assert_refused(shelf, (5, "a", text), InvalidChange, word="text")
            self.assert_refused(shelf, (-1, "", 5), InvalidChange, word="time")
            self.assert_refused(shelf, (5, "", 5), InvalidChange, word="key")

    def test_the_bounds_are_within(self):
        shelf = shelf_of([(0, "abcdefgh", "x" * 400), (100000, "0", "")])
        self.assertEqual(shelf.history("abcdefgh"), ((0, None, ("x" * 12,)),))
        self.assertEqual(shelf.history("0"), ((100000, None, ()),))

    def test_the_eightieth_change_and_the_next(self):
        shelf = shelf_of([(at, "a", "x") for at in range(79)])
        shelf.tell(200, "b", None)
        self.assertEqual(len(shelf.changes()), 80)
        self.assertEqual(shelf.changes()[-1], (200, "b", None))
        for change in ((300, "a", "x"), (5, "a", "x"), (5, "a", None), (300, "c", "x")):
            self.assert_refused(shelf, change, TooMany, limit=80)

    def test_changes_that_do_not_count_are_changes(self):
        shelf = shelf_of([(5, "a", "x")] * 80)
        self.assert_refused(shelf, (5, "a", "x"), TooMany, limit=80)

    def test_the_twelfth_key_and_the_next(self):
        shelf = shelf_of([(5, "k" + str(at), None if at < 3 else "x") for at in range(11)])
        shelf.tell(5, "z", "x")
        self.assertEqual(len(shelf.known_keys()), 12)
        self.assert_refused(shelf, (5, "y", "x"), TooMany, limit=12)
        self.assert_refused(shelf, (5, "y", None), TooMany, limit=12)
        for key in shelf.known_keys():
            shelf.tell(6, key, "y")
        self.assertEqual(len(shelf.changes()), 24)

    def test_which_error_comes_first(self):
        shelf = full_shelf()
        self.assert_refused(shelf, (-1, "new", "x"), InvalidChange, word="time")
        self.assert_refused(shelf, (1, "New", "x"), InvalidChange, word="key")
        self.assert_refused(shelf, (1, "new", "\t"), InvalidChange, word="text")
        self.assert_refused(shelf, (1, "new", "x"), TooMany, limit=80)
        self.assert_refused(shelf, (1, "k1", "x"), TooMany, limit=80)
        twelve = shelf_of([(at, "k" + str(at % 12), "x") for at in range(79)])
        self.assert_refused(twelve, (1, "new", "\t"), InvalidChange, word="text")
        self.assert_refused(twelve, (1, "new", "x"), TooMany, limit=12)
        twelve.tell(1, "k1", "x")
        self.assert_refused(twelve, (1, "new", "x"), TooMany, limit=80)

    def test_what_comes_back_is_new(self):
        shelf = shelf_of([(5, "a", "x"), (7, "b", "y")])
        shelf.changes().append((9, "c", "z"))
        shelf.changes().clear()
        shelf.known_keys().append("c")
        shelf.plain_answer(("all",))["c"] = (1,)
        self.assertEqual(shelf.changes(), [(5, "a", "x"), (7, "b", "y")])
        self.assertEqual(shelf.known_keys(), ["a", "b"])
        self.assertEqual(shelf.plain_answer(("all",)), {"a": (5,), "b": (7,)})
        before = shelf.changes()
        shelf.tell(8, "a", "z")
        self.assertEqual(len(before), 2)

    def test_two_shelves_are_apart(self):
        one = shelf_of([(5, "a", "x")])
        other = shelf_of([(6, "b", "y")])
        self.assertEqual(one.known_keys(), ["a"])
        self.assertEqual(other.known_keys(), ["b"])

    def test_no_such_key(self):
        shelf = shelf_of([(5, "a", "x"), (6, "b", None)])
        for key in ("c", "", "aa", "A"):
            for call in (lambda: shelf.history(key), lambda: shelf.document(key, 5)):
                with self.assertRaises(NoSuchKey) as caught:
                    call()
                self.assertEqual(caught.exception.key, key)
        with self.assertRaises(NoSuchKey):
            Shelf(()).history("a")
        with self.assertRaises(NoSuchKey):
            Shelf(()).document("a", 0)


class Histories(unittest.TestCase):
    def assert_history(self, told, expected, endings=()):
        changes = [(time, "a", text) for time, text in told]
        self.assertEqual(shelf_of(changes, endings).history("a"), expected)
        others = [(3, "b", "x"), (4, "b", None), (5, "0", "y z")]
        self.assertEqual(shelf_of(others + changes + others, endings).history("a"), expected)

    def test_one_version(self):
        self.assert_history([(5, "Old Mill")], ((5, None, ("old", "mill")),))
        self.assert_history([(0, "")], ((0, None, ()),))

    def test_versions_one_behind_the_other(self):
        self.assert_history([(1, "x"), (4, "y"), (9, "z")], ((1, 4, ("x",)), (4, 9, ("y",)), (9, None, ("z",))))

    def test_late_changes(self):
        expected = ((1, 4, ("x",)), (4, 9, ("y",)), (9, None, ("z",)))
        self.assert_history([(9, "z"), (4, "y"), (1, "x")], expected)
        self.assert_history([(4, "y"), (9, "z"), (1, "x")], expected)
        self.assert_history([(9, "z"), (1, "x"), (4, "y")], expected)

    def test_told_twice_at_one_time(self):
        self.assert_history([(1, "x"), (4, "w"), (9, "z"), (4, "y")], ((1, 4, ("x",)), (4, 9, ("y",)), (9, None, ("z",))))
        self.assert_history([(4, "y"), (4, "w")], ((4, None, ("w",)),))
        self.assert_history([(4, None), (4, "w")], ((4, None, ("w",)),))
        self.assert_history([(4, "w"), (4, None)], ())
        self.assert_history([(1, "x"), (4, "w"), (4, "x")], ((1, None, ("x",)),))

    def test_none_first(self):
        self.assert_history([(1, None), (4, "x")], ((4, None, ("x",)),))

    def test_none_last(self):
        self.assert_history([(1, "x"), (4, None)], ((1, 4, ("x",)),))

    def test_none_in_between(self):
        self.assert_history([(1, "x"), (4, None), (9, "y")], ((1, 4, ("x",)), (9, None, ("y",))))
        self.assert_history([(1, "x"), (9, "y"), (4, None)], ((1, 4, ("x",)), (9, None, ("y",))))

    def test_none_twice_in_a_row(self):
        self.assert_history([(1, "x"), (4, None), (6, None), (9, "y")], ((1, 4, ("x",)), (9, None, ("y",))))
        self.assert_history([(1, None), (4, None)], ())
        self.assert_history([(1, None), (1, None)], ())

    def test_neighbours_with_the_same_document(self):
        self.assert_history([(1, "x"), (4, "x"), (9, "y")], ((1, 9, ("x",)), (9, None, ("y",))))
        self.assert_history([(1, "x"), (4, "x"), (6, "x"), (9, "x")], ((1, None, ("x",)),))
        self.assert_history([(1, "x"), (4, "x"), (9, None)], ((1, 9, ("x",)),))
        self.assert_history([(1, ""), (4, "-"), (9, "x")], ((1, 9, ()), (9, None, ("x",))))

    def test_neighbours_with_different_texts_and_the_same_document(self):
        self.assert_history([(1, "old mill"), (4, "Old, mill!"), (9, "OLD\nMILL")], ((1, None, ("old", "mill")),))
        self.assert_history([(1, "abcdefghijklm"), (4, "abcdefghijkln")], ((1, None, ("abcdefghijkl",)),))

    def test_neighbours_with_the_same_document_by_endings(self):
        self.assert_history([(1, "mills"), (4, "mill")], ((1, None, ("mill",)),), S_ENDING)
        self.assert_history([(1, "mills"), (4, "mill")], ((1, 4, ("mills",)), (4, None, ("mill",))))
        self.assert_history([(1, "is"), (4, "i")], ((1, 4, ("is",)), (4, None, ("i",))), S_ENDING)

    def test_the_same_document_again_behind_a_gap(self):
        self.assert_history([(1, "x"), (4, None), (9, "x")], ((1, 4, ("x",)), (9, None, ("x",))))
        self.assert_history([(1, "x"), (4, None), (5, "x")], ((1, 4, ("x",)), (5, None, ("x",))))
        self.assert_history([(1, "x"), (4, "y"), (9, "x")], ((1, 4, ("x",)), (4, 9, ("y",)), (9, None, ("x",))))

    def test_a_late_change_parts_a_version_and_another_joins_it(self):
        told = [(1, "x"), (9, "x")]
        self.assert_history(told, ((1, None, ("x",)),))
        told = told + [(4, "y")]
        self.assert_history(told, ((1, 4, ("x",)), (4, 9, ("y",)), (9, None, ("x",))))
        self.assert_history(told + [(4, "X")], ((1, None, ("x",)),))
        self.assert_history(told + [(4, None)], ((1, 4, ("x",)), (9, None, ("x",))))

    def test_a_history_is_a_tuple(self):
        self.assertIsInstance(shelf_of([(5, "a", "x")]).history("a"), tuple)
        self.assertEqual(shelf_of([(5, "a", None)]).history("a"), ())

    def test_the_document_just_before_at_and_behind_each_time(self):
        shelf = shelf_of([(9, "a", "z"), (1, "a", "x"), (4, "a", None), (6, "a", "y"), (6, "b", "w")])
        expected = {0: None, 1: ("x",), 2: ("x",), 3: ("x",), 4: None, 5: None, 6: ("y",), 7: ("y",), 8: ("y",),
                    9: ("z",), 10: ("z",), 100000: ("z",)}
        for time, document in expected.items():
            self.assertEqual(shelf.document("a", time), document, time)
        self.assertEqual(shelf.document("b", 5), None)
        self.assertEqual(shelf.document("b", 6), ("w",))

    def test_the_empty_document_is_no_missing_one(self):
        shelf = shelf_of([(4, "a", ""), (6, "a", None)])
        self.assertEqual([shelf.document("a", time) for time in (3, 4, 5, 6)], [None, (), (), None])

    def test_a_key_without_a_document(self):
        shelf = shelf_of([(4, "a", None), (6, "a", None)])
        for time in range(8):
            self.assertIsNone(shelf.document("a", time))

    def test_made_changes(self):
        chance = random.Random(71)
        for _ in range(250):
            changes = made_changes(chance, chance.randrange(30))
            endings = chance.choice([(), (("b", 1),), (("c", 2), ("bc", 1))])
            shelf = shelf_of(changes, endings)
            self.assertEqual(shelf.known_keys(), keys_plainly(changes))
            for key in shelf.known_keys():
                self.assertEqual(shelf.history(key), history_plainly(changes, endings, key))
                for time in range(14):
                    expected = document_plainly(changes, endings, key, time)
                    self.assertEqual(shelf.document(key, time), expected)


class Answers(unittest.TestCase):
    def test_examples_of_the_interface(self):
        shelf = shelf_of([(1, "a", "the old mill"), (9, "a", "Mill"), (4, "a", "the mills by the weir"),
                          (6, "a", None)], S_ENDING)
        self.assertEqual(shelf.plain_answer(read_question("mill")), {"a": (1, 6, 9)})
        self.assertEqual(shelf.plain_answer(read_question("-the mill")), {"a": (9,)})

    def test_no_key_with_an_empty_timeline(self):
        shelf = shelf_of([(1, "a", "x"), (2, "b", "y"), (3, "c", None), (4, "d", "x"), (5, "d", None)])
        self.assertEqual(shelf.plain_answer(read_question("x")), {"a": (1,), "d": (4, 5)})
        self.assertEqual(shelf.plain_answer(read_question("-@")), {})
        self.assertEqual(shelf.plain_answer(read_question("@")), {"a": (1,), "b": (2,), "d": (4, 5)})

    def test_neighbours_that_both_match_give_one_span(self):
        shelf = shelf_of([(1, "a", "x y"), (4, "a", "x z"), (9, "a", "z")])
        self.assertEqual(shelf.plain_answer(read_question("x")), {"a": (1, 9)})
        self.assertEqual(shelf.plain_answer(read_question("z")), {"a": (4,)})
        self.assertEqual(shelf.plain_answer(read_question("@")), {"a": (1,)})
        self.assertEqual(shelf.plain_answer(read_question("y | z -x")), {"a": (1, 4, 9)})

    def test_the_empty_document(self):
        shelf = shelf_of([(1, "a", ""), (4, "a", None), (6, "a", "x"), (9, "a", "-")])
        self.assertEqual(shelf.plain_answer(read_question("-x")), {"a": (1, 4, 9)})
        self.assertEqual(shelf.plain_answer(read_question("@")), {"a": (1, 4, 6)})
        self.assertEqual(shelf.plain_answer(read_question("x")), {"a": (6, 9)})

    def test_against_the_documents(self):
        chance = random.Random(72)
        for _ in range(120):
            changes = made_changes(chance, chance.randrange(30))
            endings = chance.choice([(), (("b", 1),)])
            shelf = shelf_of(changes, endings)
            for question in QUESTIONS + [made_question(chance, 8) for _ in range(4)]:
                answer = shelf.plain_answer(question)
                self.assertEqual(answer, answer_plainly(changes, endings, question))
                self.assertNotIn((), answer.values())
                for key in shelf.known_keys():
                    for time in times_plainly(changes, key):
                        for at in (time - 1, time, time + 1):
                            document = document_plainly(changes, endings, key, at)
                            expected = document is not None and matches_plainly(document, question)
                            self.assertIs(is_in(answer.get(key, ()), at), expected)

    def test_any_order_of_different_keys_and_times(self):
        chance = random.Random(73)
        for _ in range(60):
            told = {(time, key): text for time, key, text in made_changes(chance, 20)}
            changes = [(time, key, text) for (time, key), text in told.items()]
            first = shelf_of(changes)
            chance.shuffle(changes)
            other = shelf_of(changes)
            self.assertEqual(first.known_keys(), other.known_keys())
            for key in first.known_keys():
                self.assertEqual(first.history(key), other.history(key))
            for question in QUESTIONS:
                self.assertEqual(first.plain_answer(question), other.plain_answer(question))
