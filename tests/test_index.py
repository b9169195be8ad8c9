"""[i2] to [i4]: an index that is kept by changes, its work, its answers and what they read."""

import random
import unittest

from making import QUESTIONS, WORDS, after_telling, made_changes, made_question
from plain import (answer_plainly, fits_plainly, matches_plainly, places_plainly, postings_plainly)
from timeshelf.errors import InvalidChange, TooMany
from timeshelf.index import Index
from timeshelf.questions import patterns_of, read_question

S_ENDING = (("s", 3),)


def index_of(changes, endings=()):
    return after_telling(Index(endings), changes)


def read_plainly(changes, endings, question):
    """The number of postings of words that fit some pattern, plus that of the versions if needed."""
    patterns = patterns_of(question)
    fitting = [posting for posting in postings_plainly(changes, endings)
               if [1 for pattern in patterns if fits_plainly(posting[0], pattern)]]
    needed = matches_plainly((), question)
    return len(fitting) + (len(places_plainly(changes, endings)) if needed else 0)


def all_of(index):
    """All that an index has."""
    shelf = index.shelf()
    return (shelf.endings(), shelf.changes(), index.versions(), index.words(),
            [index.postings(word) for word in index.words()], index.work(),
            [index.answer(question) for question in QUESTIONS], [index.read(question) for question in QUESTIONS])


class Kept(unittest.TestCase):
    def assert_as_from_nothing(self, index, changes, endings):
        told = postings_plainly(changes, endings)
        self.assertEqual(index.versions(), places_plainly(changes, endings))
        self.assertEqual(index.words(), sorted({posting[0] for posting in told}))
        self.assertEqual([posting for word in index.words() for posting in index.postings(word)], told)
        self.assertEqual(index.shelf().changes(), changes)
        self.assertEqual(index.shelf().endings(), endings)

    def assert_work(self, index, change, work):
        self.assertIsNone(index.tell(*change))
        self.assertEqual(index.work(), work, change)
        self.assert_as_from_nothing(index, index.shelf().changes(), index.shelf().endings())

    def test_example_of_the_interface(self):
        index = Index(())
        index.tell(1, "a", "the mill the weir")
        self.assertEqual(index.work(), (0, 3))
        self.assertEqual(index.postings("the"), [("the", "a", 1, None, (0, 2))])
        index.tell(5, "a", "the mill")
        self.assertEqual(index.work(), (3, 5))
        self.assertEqual(index.answer(read_question("mill")), {"a": (1,)})
        self.assertEqual(index.read(read_question("-weir")), 3)

    def test_without_changes(self):
        index = Index(S_ENDING)
        self.assert_as_from_nothing(index, [], S_ENDING)
        self.assertEqual(index.work(), (0, 0))
        self.assertEqual(index.postings("a"), [])
        self.assertEqual(index.words_for(("start", "a")), [])
        for question in QUESTIONS:
            self.assertEqual(index.answer(question), {})
            self.assertEqual(index.read(question), 0)

    def test_work_of_a_change_that_changes_no_document(self):
        index = index_of([(5, "a", "x y"), (9, "a", None)])
        for change in ((5, "a", "X, y"), (7, "a", "x y"), (2, "a", None), (9, "a", None), (11, "a", None),
                       (3, "b", None)):
            self.assert_work(index, change, (0, 0))

    def test_work_of_a_new_key(self):
        index = index_of([(5, "a", "x y")])
        self.assert_work(index, (5, "b", "x x z"), (0, 2))
        self.assert_work(index, (5, "c", ""), (0, 0))
        self.assertEqual(index.versions(), [("a", 5, None), ("b", 5, None), ("c", 5, None)])

    def test_work_of_a_change_that_takes_a_document_away(self):
        index = index_of([(5, "a", "x y"), (5, "b", "x")])
        # The version ends now: its postings have another end.
        self.assert_work(index, (8, "a", None), (2, 2))
        # It is no longer there at all.
        self.assert_work(index, (5, "a", None), (2, 0))
        self.assert_work(index, (5, "b", None), (1, 0))
        self.assertEqual(index.words(), [])
        self.assertEqual(index.versions(), [])

    def test_work_of_a_change_at_the_same_time(self):
        index = index_of([(5, "a", "x y z")])
        # The posting of x is as it was.
        self.assert_work(index, (5, "a", "x z"), (2, 1))
        self.assert_work(index, (5, "a", "x z w"), (0, 1))
        self.assert_work(index, (5, "a", "v"), (3, 1))

    def test_work_of_late_changes_that_part_and_join_versions(self):
        index = index_of([(2, "a", "x y"), (9, "a", "x y")])
        self.assertEqual(index.versions(), [("a", 2, None)])
        self.assertEqual(index.work(), (0, 0))
        self.assert_work(index, (5, "a", "z"), (2, 5))
        self.assertEqual(index.versions(), [("a", 2, 5), ("a", 5, 9), ("a", 9, None)])
        self.assert_work(index, (5, "a", "x, y"), (5, 2))
        self.assertEqual(index.versions(), [("a", 2, None)])
        self.assert_work(index, (5, "a", None), (2, 4))
        self.assertEqual(index.versions(), [("a", 2, 5), ("a", 9, None)])

    def test_work_behind_all_others_and_ahead_of_them(self):
        index = index_of([(5, "a", "x"), (9, "a", "y")])
        self.assert_work(index, (12, "a", "z"), (1, 2))
        self.assert_work(index, (1, "a", "x y"), (0, 2))
        self.assert_work(index, (1, "a", "x"), (3, 1))

    def test_work_with_words_that_are_cut(self):
        index = index_of([(5, "a", "mills")], S_ENDING)
        self.assert_work(index, (9, "a", "mill"), (0, 0))
        self.assertEqual(index.postings("mill"), [("mill", "a", 5, None, (0,))])
        self.assertEqual(index.postings("mills"), [])

    def test_work_is_that_of_the_last_change(self):
        index = index_of([(5, "a", "x y"), (5, "b", "x")])
        self.assertEqual(index.work(), (0, 1))
        index.answer(read_question("x"))
        index.read(read_question("x"))
        self.assertEqual(index.work(), (0, 1))

    def test_behind_each_change(self):
        chance = random.Random(91)
        for _ in range(60):
            endings = chance.choice([(), (("b", 1),), (("c", 2), ("bc", 1))])
            changes = made_changes(chance, chance.randrange(1, 25))
            index = Index(endings)
            before = []
            for at, (time, key, text) in enumerate(changes):
                index.tell(time, key, text)
                told = changes[:at + 1]
                self.assert_as_from_nothing(index, told, endings)
                now = postings_plainly(told, endings)
                gone = [posting for posting in before if posting not in now]
                new = [posting for posting in now if posting not in before]
                self.assertEqual(index.work(), (len(gone), len(new)))
                before = now
                question = made_question(chance, 8)
                self.assertEqual(index.answer(question), answer_plainly(told, endings, question))

    def test_with_80_changes_of_one_key(self):
        chance = random.Random(92)
        changes = [(chance.randrange(100001), "a", " ".join(chance.choice(WORDS) for _ in range(30))) for _ in range(80)]
        index = index_of(changes)
        self.assert_as_from_nothing(index, changes, ())
        for question in QUESTIONS:
            self.assertEqual(index.answer(question), answer_plainly(changes, (), question))
        with self.assertRaises(TooMany):
            index.tell(1, "a", "x")
        self.assert_as_from_nothing(index, changes, ())


class Refused(unittest.TestCase):
    def assert_refused(self, index, change, error, **fields):
        before = all_of(index)
        with self.assertRaises(error) as caught:
            index.tell(*change)
        self.assertEqual(vars(caught.exception), fields)
        self.assertEqual(all_of(index), before)

    def test_changes_that_are_wrong(self):
        for index in (Index(()), index_of([(5, "a", "x y"), (2, "a", "x"), (3, "b", "y")])):
            for time in (-1, 100001, None, "5", True, [5]):
                self.assert_refused(index, (time, "a", "x"), InvalidChange, word="time")
            for key in ("", "abcdefghi", "A", None, 5, True, ["a"], {}, ("a",)):
                self.assert_refused(index, (5, key, "x"), InvalidChange, word="key")
            for text in ("x" * 401, "\t", chr(37), 5, False, ["x"]):
                self.assert_refused(index, (5, "a", text), InvalidChange, word="text")
            self.assert_refused(index, (5, "A", 5), InvalidChange, word="key")

    def test_too_many_changes_and_keys(self):
        index = index_of([(at, "k" + str(at % 12), "x " + str(at)) for at in range(79)])
        self.assertNotEqual(index.work(), (0, 0))
        self.assert_refused(index, (5, "new", "x"), TooMany, limit=12)
        self.assert_refused(index, (5, "new", 5), InvalidChange, word="text")
        index.tell(90, "k1", "y")
        self.assert_refused(index, (5, "new", "x"), TooMany, limit=80)
        self.assert_refused(index, (5, "k1", "x"), TooMany, limit=80)
        self.assert_refused(index, (-5, "k1", "x"), InvalidChange, word="time")


class Apart(unittest.TestCase):
    def test_the_shelf_is_one_of_its_own(self):
        index = index_of([(5, "a", "x"), (3, "b", "y")], S_ENDING)
        before = all_of(index)
        shelf = index.shelf()
        self.assertEqual(shelf.endings(), S_ENDING)
        self.assertEqual(shelf.changes(), [(5, "a", "x"), (3, "b", "y")])
        shelf.tell(7, "c", "z")
        shelf.tell(5, "a", None)
        self.assertEqual(all_of(index), before)
        self.assertEqual(len(index.shelf().changes()), 2)
        index.tell(9, "a", "w")
        self.assertEqual(len(shelf.changes()), 4)

    def test_the_order_of_telling_is_kept(self):
        told = [(5, "b", "x"), (5, "a", "y"), (5, "b", "z"), (2, "b", None), (5, "b", "z")]
        self.assertEqual(index_of(told).shelf().changes(), told)

    def test_what_comes_back_is_new(self):
        index = index_of([(5, "a", "x y x"), (3, "b", "y")])
        before = all_of(index)
        index.versions().clear()
        index.words().append("z")
        index.postings("x").clear()
        index.postings("q").append(("q", "a", 5, None, (0,)))
        index.words_for(("start", "x")).clear()
        index.answer(("all",)).clear()
        self.assertEqual(all_of(index), before)
        self.assertEqual(index.postings("q"), [])
        self.assertEqual(index.words(), ["x", "y"])

    def test_two_indexes_are_apart(self):
        one = index_of([(5, "a", "x")])
        other = index_of([(5, "a", "y")])
        self.assertEqual(one.words(), ["x"])
        self.assertEqual(other.words(), ["y"])


class Asked(unittest.TestCase):
    def test_postings_by_key_and_start(self):
        index = index_of([(9, "b", "x"), (100, "a", "x"), (20, "a", "y x"), (3, "b", "x y"), (5, "10", "x")])
        self.assertEqual(index.postings("x"), [
            ("x", "10", 5, None, (0,)), ("x", "a", 20, 100, (1,)), ("x", "a", 100, None, (0,)),
            ("x", "b", 3, 9, (0,)), ("x", "b", 9, None, (0,))])
        self.assertEqual(index.postings("y"), [("y", "a", 20, 100, (0,)), ("y", "b", 3, 9, (1,))])
        self.assertEqual(index.postings("z"), [])
        self.assertEqual(index.postings(""), [])

    def test_versions_by_key_and_start(self):
        index = index_of([(9, "b", "x"), (100, "a", ""), (20, "a", "y"), (3, "b", "z"), (5, "10", "x"), (4, "c", None)])
        self.assertEqual(index.versions(), [("10", 5, None), ("a", 20, 100), ("a", 100, None), ("b", 3, 9), ("b", 9, None)])

    def test_words_for_words_and_starts(self):
        index = index_of([(5, "a", "mills mill old"), (9, "b", "mil millers 1mill"), (11, "b", "mi")])
        self.assertEqual(index.words_for(("word", "mill")), ["mill"])
        self.assertEqual(index.words_for(("start", "mill")), ["mill", "millers", "mills"])
        self.assertEqual(index.words_for(("start", "m")), ["mi", "mil", "mill", "millers", "mills"])
        self.assertEqual(index.words_for(("word", "m")), [])
        self.assertEqual(index.words_for(("start", "z")), [])
        index.tell(9, "b", None)
        self.assertEqual(index.words_for(("start", "mil")), ["mill", "mills"])

    def assert_read(self, index, text, number):
        self.assertEqual(index.read(read_question(text)), number, text)

    def test_read(self):
        index = index_of([(5, "a", "mill mills old"), (9, "a", "mill"), (7, "b", "old"), (9, "c", "")])
        self.assertEqual(len(index.versions()), 4)
        self.assert_read(index, "mill", 2)
        self.assert_read(index, "mill*", 3)
        self.assert_read(index, "weir", 0)
        # Words that fit several patterns are counted once.
        self.assert_read(index, "mill mill", 2)
        self.assert_read(index, "mill mill*", 3)
        self.assert_read(index, "mills | mi* | m*", 3)
        self.assert_read(index, '"old mill"', 4)
        self.assert_read(index, "old -mill", 4)
        # All versions.
        self.assert_read(index, "@", 4)
        self.assert_read(index, "-@", 0)
        self.assert_read(index, "-mill", 6)
        self.assert_read(index, "--mill", 2)
        self.assert_read(index, "old | -mill*", 9)
        self.assert_read(index, "-weir", 4)
        self.assert_read(index, "@ weir", 0)

    def test_made_questions(self):
        chance = random.Random(93)
        needs = []
        for _ in range(80):
            endings = chance.choice([(), (("b", 1),)])
            changes = made_changes(chance, chance.randrange(1, 40))
            index = index_of(changes, endings)
            for question in QUESTIONS + [made_question(chance, 10) for _ in range(10)]:
                answer = answer_plainly(changes, endings, question)
                self.assertEqual(index.answer(question), answer)
                self.assertEqual(index.shelf().plain_answer(question), answer)
                self.assertEqual(index.read(question), read_plainly(changes, endings, question))
                needs.append(matches_plainly((), question))
            for word in WORDS + ["z"]:
                for kind in ("word", "start"):
                    expected = [other for other in index.words() if fits_plainly(other, (kind, word))]
                    self.assertEqual(index.words_for((kind, word)), expected)
        self.assertGreater(needs.count(True), 100)
        self.assertGreater(needs.count(False), 100)

    def test_answers_at_the_edges(self):
        index = index_of([(0, "a", "x"), (100000, "a", None), (100000, "b", "x")])
        self.assertEqual(index.answer(read_question("x")), {"a": (0, 100000), "b": (100000,)})
        self.assertEqual(index.answer(read_question("-x")), {})
        self.assertEqual(index.answer(read_question("@")), {"a": (0, 100000), "b": (100000,)})

    def test_the_order_of_telling_different_keys_and_times_does_not_matter(self):
        chance = random.Random(94)
        for _ in range(40):
            told = {(time, key): text for time, key, text in made_changes(chance, 20)}
            changes = [(time, key, text) for (time, key), text in told.items()]
            one = index_of(changes)
            chance.shuffle(changes)
            other = index_of(changes)
            self.assertEqual(one.versions(), other.versions())
            self.assertEqual(one.words(), other.words())
            for word in one.words():
                self.assertEqual(one.postings(word), other.postings(word))
