"""[f1] to [f3]: copies, how they are merged, and compacted rows of tellings."""

import itertools
import random
import unittest

from making import QUESTIONS, copy_of, made_changes, made_text
from plain import answer_plainly, compacted_plainly, history_plainly
from timeshelf.errors import InvalidChange, OtherShelf, TooMany
from timeshelf.merging import Copy, compacted
from timeshelf.shelves import Shelf

S_ENDING = (("s", 3),)


def all_of(copy):
    """All that a copy has."""
    shelf = copy.shelf()
    return (copy.source(), copy.endings(), copy.tellings(), copy.held(), shelf.endings(), shelf.changes())


def merged(*copies, source=9, endings=()):
    """A copy that the copies are merged into one by one."""
    copy = Copy(source, endings)
    for other in copies:
        copy.merge(other)
    return copy


class Telling(unittest.TestCase):
    def test_example_of_the_interface(self):
        one = Copy(1, ())
        other = Copy(2, ())
        self.assertEqual(one.tell(5, "a", "old mill"), (1, 1, (5, "a", "old mill")))
        self.assertEqual(other.tell(5, "a", "new mill"), (1, 2, (5, "a", "new mill")))
        self.assertEqual(one.merge(other), 1)
        self.assertEqual(one.shelf().document("a", 7), ("new", "mill"))

    def test_without_tellings(self):
        copy = Copy(3, S_ENDING)
        self.assertEqual(all_of(copy), (3, S_ENDING, [], [], S_ENDING, []))
        self.assertIsInstance(copy.shelf(), Shelf)

    def test_sources(self):
        for source in range(1, 10):
            self.assertEqual(Copy(source, ()).source(), source)
        for source in (0, 10, -1, 100):
            with self.assertRaises(TooMany) as caught:
                Copy(source, ())
            self.assertEqual(caught.exception.limit, 9)

    def test_stamps_of_one_copy(self):
        copy = Copy(4, ())
        self.assertEqual(copy.tell(9, "a", "x"), (1, 4, (9, "a", "x")))
        self.assertEqual(copy.tell(5, "b", None), (2, 4, (5, "b", None)))
        # The same change again is a telling of its own.
        self.assertEqual(copy.tell(9, "a", "x"), (3, 4, (9, "a", "x")))
        self.assertEqual(copy.tellings(), [(1, 4, (9, "a", "x")), (2, 4, (5, "b", None)), (3, 4, (9, "a", "x"))])
        self.assertEqual(copy.held(), copy.tellings())
        self.assertEqual(copy.shelf().changes(), [(9, "a", "x"), (5, "b", None), (9, "a", "x")])

    def test_stamps_behind_merging(self):
        one = copy_of(1, [(1, "a", "x"), (2, "a", "y"), (3, "a", "z")])
        other = copy_of(2, [(4, "a", "w")])
        self.assertEqual(other.merge(one), 3)
        self.assertEqual(other.tell(5, "a", "v"), (4, 2, (5, "a", "v")))
        # What it does not hold does not count.
        self.assertEqual(one.tell(6, "a", "u"), (4, 1, (6, "a", "u")))
        self.assertEqual(one.merge(other), 2)
        self.assertEqual(one.tell(7, "a", "t"), (5, 1, (7, "a", "t")))
        self.assertEqual([telling[:2] for telling in one.tellings()],
                         [(1, 1), (1, 2), (2, 1), (3, 1), (4, 1), (4, 2), (5, 1)])
        self.assertEqual([telling[:2] for telling in one.held()],
                         [(1, 1), (2, 1), (3, 1), (4, 1), (1, 2), (4, 2), (5, 1)])

    def test_the_shelf_has_the_changes_in_the_order_of_tellings(self):
        one = copy_of(1, [(5, "a", "x"), (5, "a", "y")])
        other = copy_of(2, [(5, "a", "z")])
        one.merge(other)
        other.merge(one)
        for copy in (one, other):
            self.assertEqual(copy.shelf().changes(), [(5, "a", "x"), (5, "a", "z"), (5, "a", "y")])
            self.assertEqual(copy.shelf().document("a", 5), ("y",))

    def test_endings(self):
        copy = copy_of(1, [(5, "a", "old mills")], S_ENDING)
        self.assertEqual(copy.endings(), S_ENDING)
        self.assertEqual(copy.shelf().endings(), S_ENDING)
        self.assertEqual(copy.shelf().document("a", 5), ("old", "mill"))


class Refused(unittest.TestCase):
    def assert_refused(self, copy, change, error, **fields):
        before = all_of(copy)
        with self.assertRaises(error) as caught:
            copy.tell(*change)
        self.assertEqual(vars(caught.exception), fields)
        self.assertEqual(all_of(copy), before)

    def test_changes_that_are_wrong(self):
        for copy in (Copy(1, ()), copy_of(1, [(5, "a", "x y"), (2, "a", "x")])):
            for time in (-1, 100001, None, "5", True, [5]):
                self.assert_refused(copy, (time, "a", "x"), InvalidChange, word="time")
            for key in ("", "abcdefghi", "A", None, 5, ["a"]):
                self.assert_refused(copy, (5, key, "x"), InvalidChange, word="key")
            for text in ("x" * 401, "\t", chr(37), 5, ["x"]):
                self.assert_refused(copy, (5, "a", text), InvalidChange, word="text")
        self.assertEqual(copy.tell(5, "a", "z"), (3, 1, (5, "a", "z")))

    def test_too_many_tellings_and_keys(self):
        copy = copy_of(1, [(at, "k" + str(at % 12), "x") for at in range(79)])
        self.assert_refused(copy, (5, "new", "x"), TooMany, limit=12)
        self.assert_refused(copy, (5, "new", None), TooMany, limit=12)
        self.assert_refused(copy, (5, "new", 5), InvalidChange, word="text")
        copy.tell(90, "k1", "y")
        self.assert_refused(copy, (5, "new", "x"), TooMany, limit=80)
        self.assert_refused(copy, (5, "k1", "x"), TooMany, limit=80)
        self.assert_refused(copy, (-5, "k1", "x"), InvalidChange, word="time")

    def test_tellings_of_others_count_too(self):
        copy = copy_of(1, [(at, "k" + str(at), "x") for at in range(11)])
        copy.merge(copy_of(2, [(5, "other", "x")]))
        self.assert_refused(copy, (5, "new", "x"), TooMany, limit=12)
        copy = copy_of(1, [(at, "k", "x") for at in range(40)])
        copy.merge(copy_of(2, [(at, "k", "x") for at in range(40)]))
        self.assert_refused(copy, (5, "k", "x"), TooMany, limit=80)


class Merging(unittest.TestCase):
    def assert_not_merged(self, one, other, error, **fields):
        before = (all_of(one), all_of(other))
        with self.assertRaises(error) as caught:
            one.merge(other)
        self.assertEqual(vars(caught.exception), fields)
        self.assertEqual((all_of(one), all_of(other)), before)

    def test_how_many_are_new(self):
        one = copy_of(1, [(1, "a", "x"), (2, "a", "y")])
        other = copy_of(2, [(3, "a", "z")])
        empty = Copy(3, ())
        self.assertEqual(one.merge(empty), 0)
        self.assertEqual(empty.merge(one), 2)
        self.assertEqual(empty.merge(one), 0)
        self.assertEqual(empty.merge(other), 1)
        self.assertEqual(empty.merge(other), 0)
        self.assertEqual(one.merge(empty), 1)
        self.assertEqual(one.merge(other), 0)
        self.assertEqual(one.merge(one), 0)
        self.assertEqual(other.merge(one), 2)
        self.assertEqual(one.tellings(), other.tellings())
        self.assertEqual(one.tellings(), empty.tellings())

    def test_the_other_copy_stays_as_it_is(self):
        one = copy_of(1, [(1, "a", "x")])
        other = copy_of(2, [(3, "a", "z"), (4, "a", None)])
        before = all_of(other)
        one.merge(other)
        self.assertEqual(all_of(other), before)
        one.tell(5, "a", "w")
        other.tell(6, "a", "v")
        self.assertEqual(len(one.tellings()), 4)
        self.assertEqual(len(other.tellings()), 3)

    def test_held_is_in_the_order_of_coming(self):
        one = copy_of(1, [(1, "a", "x"), (2, "a", "y")])
        other = copy_of(2, [(3, "a", "z")])
        other.merge(one)
        other.tell(4, "a", "w")
        self.assertEqual([telling[:2] for telling in other.held()], [(1, 2), (1, 1), (2, 1), (3, 2)])
        # Those of one merging come in their order, not in the order in which the other one holds them.
        third = copy_of(3, [(5, "a", "v"), (6, "a", "u")])
        self.assertEqual(third.merge(other), 4)
        self.assertEqual([telling[:2] for telling in third.held()], [(1, 3), (2, 3), (1, 1), (1, 2), (2, 1), (3, 2)])
        self.assertEqual([telling[:2] for telling in third.tellings()], [(1, 1), (1, 2), (1, 3), (2, 1), (2, 3), (3, 2)])

    def test_stamps_are_in_the_order_of_numbers(self):
        one = copy_of(1, [(at, "a", "x") for at in range(11)])
        other = copy_of(2, [(5, "b", "x")])
        other.merge(one)
        self.assertEqual([telling[0] for telling in other.tellings()], [1, 1, 2, 3, 4, 5, 6, 7, 8, 9, 10, 11])

    def test_other_endings(self):
        for one, other in (((), S_ENDING), (S_ENDING, ()), (S_ENDING, (("s", 4),)), (S_ENDING, S_ENDING * 2)):
            self.assert_not_merged(Copy(1, one), Copy(2, other), OtherShelf)
            self.assert_not_merged(copy_of(1, [(5, "a", "x")], one), copy_of(2, [(5, "b", "x")], other), OtherShelf)
        self.assertEqual(Copy(1, S_ENDING).merge(copy_of(2, [(5, "a", "x")], S_ENDING)), 1)

    def test_one_stamp_and_source_with_different_changes(self):
        for other in ((6, "a", "x"), (5, "b", "x"), (5, "a", "y"), (5, "a", None), (5, "a", "")):
            self.assert_not_merged(copy_of(1, [(5, "a", "x")]), copy_of(1, [other]), OtherShelf)
            self.assert_not_merged(copy_of(1, [other]), copy_of(1, [(5, "a", "x")]), OtherShelf)
        one = copy_of(1, [(5, "a", "x"), (6, "a", "y")])
        other = merged(copy_of(2, [(7, "b", "z")]), copy_of(1, [(5, "a", "x"), (6, "a", "w")]))
        self.assert_not_merged(one, other, OtherShelf)
        self.assert_not_merged(other, one, OtherShelf)
        # The same changes are no harm.
        self.assertEqual(one.merge(copy_of(1, [(5, "a", "x"), (6, "a", "y"), (7, "a", "z")])), 1)

    def test_too_many_tellings(self):
        one = copy_of(1, [(at, "a", "x") for at in range(50)])
        self.assert_not_merged(one, copy_of(2, [(at, "a", "x") for at in range(31)]), TooMany, limit=80)
        self.assertEqual(one.merge(copy_of(2, [(at, "a", "x") for at in range(30)])), 30)
        self.assert_not_merged(one, copy_of(3, [(5, "a", "x")]), TooMany, limit=80)
        # Those that it holds do not count twice.
        self.assertEqual(one.merge(copy_of(2, [(at, "a", "x") for at in range(30)])), 0)
        self.assertEqual(len(one.tellings()), 80)

    def test_too_many_keys(self):
        one = copy_of(1, [(5, "k" + str(at), "x") for at in range(11)])
        self.assert_not_merged(one, copy_of(2, [(5, "y", "x"), (5, "z", None)]), TooMany, limit=12)
        self.assertEqual(one.merge(copy_of(2, [(5, "y", "x"), (5, "k3", "x")])), 2)
        self.assert_not_merged(one, copy_of(3, [(5, "z", "x")]), TooMany, limit=12)
        self.assertEqual(one.merge(copy_of(3, [(5, "y", "x"), (5, "k10", "x")])), 2)

    def test_which_error_comes_first(self):
        keys = copy_of(1, [(5, "k" + str(at), "x") for at in range(12)])
        many = copy_of(2, [(at, "a", "x") for at in range(69)])
        self.assert_not_merged(keys, many, TooMany, limit=80)
        self.assert_not_merged(many, keys, TooMany, limit=80)
        self.assert_not_merged(keys, copy_of(2, [(at, "a", "x") for at in range(68)]), TooMany, limit=12)
        other = copy_of(1, [(at, "a", "x") for at in range(80)])
        self.assert_not_merged(keys, other, OtherShelf)
        self.assert_not_merged(keys, merged(other), OtherShelf)
        self.assert_not_merged(keys, copy_of(2, [(at, "a", "x") for at in range(80)], S_ENDING), OtherShelf)

    def test_merging_in_all_orders(self):
        chance = random.Random(141)
        for _ in range(12):
            copies = [copy_of(source, made_changes(chance, chance.randrange(6), keys=("a", "b"), last=4)) for source in (1, 2, 3)]
            copies[0].merge(copies[1])
            copies[0].tell(2, "a", "again")
            expected = all_of(merged(*copies))
            for order in itertools.permutations(copies):
                found = all_of(merged(*order))
                self.assertEqual(found[2], expected[2])
                self.assertEqual(found[4:], expected[4:])
            left = merged(copies[0], merged(copies[1], copies[2], source=8))
            right = merged(merged(copies[0], copies[1], source=8), copies[2])
            self.assertEqual(left.tellings(), right.tellings())
            self.assertEqual(left.tellings(), expected[2])

    def test_made_copies(self):
        # Against sets of tellings.
        chance = random.Random(142)
        for _ in range(40):
            copies = [Copy(source, ()) for source in (1, 5, 9)]
            plain = {1: {}, 5: {}, 9: {}}
            for _ in range(25):
                copy = chance.choice(copies)
                mine = plain[copy.source()]
                if chance.random() < 0.6:
                    time, key, text = made_changes(chance, 1)[0]
                    stamp = max([told[0] for told in mine], default=0) + 1
                    self.assertEqual(copy.tell(time, key, text), (stamp, copy.source(), (time, key, text)))
                    mine[stamp, copy.source()] = (time, key, text)
                else:
                    other = chance.choice(copies)
                    new = [told for told in plain[other.source()] if told not in mine]
                    self.assertEqual(copy.merge(other), len(new))
                    for told in sorted(new):
                        mine[told] = plain[other.source()][told]
                self.assertEqual(copy.held(), [told + (change,) for told, change in mine.items()])
                self.assertEqual(copy.tellings(), [told + (mine[told],) for told in sorted(mine)])
                self.assertEqual(copy.shelf().changes(), [mine[told] for told in sorted(mine)])

    def test_what_comes_back_is_new(self):
        copy = copy_of(1, [(5, "a", "x"), (6, "b", "y")])
        before = all_of(copy)
        copy.tellings().clear()
        copy.held().append((3, 1, (7, "a", "z")))
        copy.held().reverse()
        copy.shelf().tell(8, "c", "w")
        self.assertEqual(all_of(copy), before)
        told = copy.held()
        copy.tell(9, "a", "v")
        self.assertEqual(len(told), 2)


class Compacted(unittest.TestCase):
    def test_by_hand(self):
        self.assertEqual(compacted([]), [])
        x, y = (1, 1, (5, "a", "x")), (2, 1, (5, "a", "y"))
        self.assertEqual(compacted([x]), [x])
        self.assertEqual(compacted([x, y]), [y])
        self.assertEqual(compacted([(1, 1, (5, "a", "x")), (1, 2, (5, "a", None))]), [(1, 2, (5, "a", None))])
        # Other keys and other times.
        rows = [(1, 1, (5, "a", "x")), (2, 1, (5, "b", "x")), (3, 1, (6, "a", "x")), (4, 1, (5, "a", "x"))]
        self.assertEqual(compacted(rows), rows[1:])
        self.assertEqual(compacted(rows[:3]), rows[:3])

    def test_a_telling_that_takes_away_counts(self):
        rows = [(1, 1, (5, "a", None)), (2, 1, (7, "a", None))]
        self.assertEqual(compacted(rows), rows)

    def test_tellings_that_are_not_in_order(self):
        rows = [(3, 1, (5, "a", "z")), (1, 2, (5, "a", "y")), (1, 1, (4, "b", "x")), (10, 1, (6, "a", None))]
        self.assertEqual(compacted(rows), [(1, 1, (4, "b", "x")), (3, 1, (5, "a", "z")), (10, 1, (6, "a", None))])
        self.assertEqual(compacted(rows[::-1]), compacted(rows))
        self.assertEqual(rows[0], (3, 1, (5, "a", "z")))
        self.assertEqual(len(rows), 4)

    def made_copy(self, chance):
        copies = [copy_of(source, made_changes(chance, chance.randrange(9), keys=("a", "b"), last=4)) for source in (1, 2, 3)]
        return merged(*copies)

    def test_against_the_rule(self):
        chance = random.Random(143)
        for _ in range(150):
            copy = self.made_copy(chance)
            self.assertEqual(compacted(copy.tellings()), compacted_plainly(copy.tellings()))
            self.assertEqual(compacted(copy.held()), compacted_plainly(copy.tellings()))
            self.assertEqual(compacted(compacted(copy.tellings())), compacted(copy.tellings()))

    def shelf_of(self, tellings):
        """A shelf of these tellings alone."""
        shelf = Shelf(())
        for _, _, change in sorted(tellings, key=lambda telling: telling[:2]):
            shelf.tell(*change)
        return shelf

    def assert_same_histories(self, one, other):
        one, other = self.shelf_of(one), self.shelf_of(other)
        self.assertEqual(one.known_keys(), other.known_keys())
        for key in one.known_keys():
            self.assertEqual(one.history(key), other.history(key))
            self.assertEqual(one.history(key), history_plainly(one.changes(), (), key))
        for question in QUESTIONS:
            self.assertEqual(one.plain_answer(question), answer_plainly(other.changes(), (), question))

    def test_the_same_histories_now_and_later(self):
        chance = random.Random(144)
        for _ in range(40):
            copy = self.made_copy(chance)
            every = copy.tellings()
            few = compacted(every)
            self.assert_same_histories(every, few)
            for _ in range(6):
                # Merged or told to both: a telling that neither of them has, ahead of others or behind them.
                time, key, text = chance.randrange(5), chance.choice("abc"), made_text(chance)
                more = (chance.randrange(1, 14), chance.choice((5, 6, 7)), (time, key, text))
                if more[:2] not in [telling[:2] for telling in every]:
                    every = every + [more]
                    few = chance.choice([few + [more], compacted(few + [more])])
                    self.assert_same_histories(every, few)

    def test_the_list_is_new(self):
        rows = [(1, 1, (5, "a", "x"))]
        compacted(rows).clear()
        self.assertEqual(rows, [(1, 1, (5, "a", "x"))])
