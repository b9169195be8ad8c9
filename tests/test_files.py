"""[f6], [f7]: files of copies, and files that are opened."""

import random
import unittest

from making import copy_of, made_changes
from plain import endings_plainly, number_plainly, record_plainly, sum_plainly, telling_plainly, text_plainly
from timeshelf.errors import InvalidBytes, TooMany
from timeshelf.files import file_of, opened
from timeshelf.merging import Copy

S_ENDING = (("s", 3),)


def made_copy(chance, endings=()):
    """A copy of several tellings, some of them from others, with what it holds not in the order of tellings."""
    copies = [copy_of(source, made_changes(chance, chance.randrange(1, 6)), endings) for source in (1, 2, 7)]
    copies[0].merge(copies[1])
    copies[0].tell(3, "a", "x")
    copies[2].merge(copies[0])
    return copies[2]


def file_plainly(endings, tellings):
    """The bytes of the file, and the indexes behind its records."""
    data = record_plainly(endings_plainly(endings))
    behind = [len(data)]
    for telling in tellings:
        data = data + record_plainly(telling_plainly(telling))
        behind.append(len(data))
    return data, behind


class Files(unittest.TestCase):
    def test_without_tellings(self):
        # The body is the number of endings: 31 * 7 + 0 + 1 is 218.
        self.assertEqual(file_of(Copy(1, ())), [1, 0, 218, 1])

    def test_endings_byte_by_byte(self):
        body = [2, 1, 115, 3, 3, 105, 110, 103, 9]
        data = [9] + body + number_plainly(sum_plainly(body, 65521))
        self.assertEqual(file_of(Copy(1, (("s", 3), ("ing", 9)))), data)

    def test_tellings_byte_by_byte(self):
        copy = copy_of(4, [(5, "a", "Old\nmill"), (100000, "b2", None), (0, "a", "")])
        bodies = [[1, 4, 5, 1, 97, 1, 8, 79, 108, 100, 10, 109, 105, 108, 108],
                  [2, 4, 160, 141, 6, 2, 98, 50, 0],
                  [3, 4, 0, 1, 97, 1, 0]]
        expected = [1, 0, 218, 1]
        for body in bodies:
            expected = expected + [len(body)] + body + number_plainly(sum_plainly(body, 65521))
        self.assertEqual(file_of(copy), expected)

    def test_long_texts_and_large_stamps(self):
        copy = copy_of(1, [(5, "abcdefgh", "x" * 400)] * 20)
        data, _ = file_plainly((), [(stamp, 1, (5, "abcdefgh", "x" * 400)) for stamp in range(1, 21)])
        self.assertEqual(file_of(copy), data)
        self.assertEqual(data[4:6], [159, 3])

    def test_in_the_order_of_coming(self):
        chance = random.Random(151)
        unordered = 0
        for _ in range(30):
            copy = made_copy(chance, S_ENDING)
            unordered += copy.held() != copy.tellings()
            self.assertEqual(file_of(copy), file_plainly(S_ENDING, copy.held())[0])
        self.assertGreater(unordered, 20)

    def test_the_file_is_new_and_the_copy_stays_as_it_is(self):
        copy = copy_of(1, [(5, "a", "x")])
        data = file_of(copy)
        file_of(copy).clear()
        self.assertEqual(file_of(copy), data)
        self.assertEqual(copy.held(), [(1, 1, (5, "a", "x"))])


class Opened(unittest.TestCase):
    def assert_opened(self, data, endings, held, behind, source=3):
        before = list(data)
        found = opened(data, source)
        self.assertEqual(data, before)
        self.assertIsInstance(found, tuple)
        copy, at = found
        self.assertIsInstance(copy, Copy)
        self.assertEqual(copy.held(), held)
        self.assertEqual(at, behind)
        self.assertEqual(copy.source(), source)
        self.assertEqual(copy.endings(), endings)
        self.assertEqual(copy.tellings(), sorted(held, key=lambda telling: telling[:2]))
        self.assertEqual(copy.shelf().changes(), [telling[2] for telling in copy.tellings()])
        return copy

    def assert_invalid(self, data):
        for source in (3, 0, 10):
            with self.assertRaises(InvalidBytes) as caught:
                opened(data, source)
            self.assertEqual(caught.exception.at, 0)


class Whole(Opened):
    def test_without_tellings(self):
        self.assert_opened([1, 0, 218, 1], (), [], 4)
        nine = tuple(("s" * (at % 4 + 1), at + 1) for at in range(9))
        for endings in (S_ENDING, (("s", 1), ("abcd", 9)), (("0", 5), ("0", 5), ("0", 2)), nine):
            data, behind = file_plainly(endings, [])
            self.assert_opened(data, endings, [], behind[0])
            self.assert_opened(file_of(Copy(1, endings)), endings, [], behind[0])

    def test_each_source(self):
        data = file_of(copy_of(2, [(5, "a", "x")]))
        for source in range(1, 10):
            self.assert_opened(data, (), [(1, 2, (5, "a", "x"))], len(data), source)
        for source in (0, 10, -1):
            with self.assertRaises(TooMany) as caught:
                opened(data, source)
            self.assertEqual(caught.exception.limit, 9)

    def test_an_opened_copy_goes_on(self):
        copy = copy_of(2, [(5, "a", "x"), (6, "a", "y")])
        found, _ = opened(file_of(copy), 4)
        self.assertEqual(found.tell(7, "a", "z"), (3, 4, (7, "a", "z")))
        self.assertEqual(copy.merge(found), 1)
        again, _ = opened(file_of(found), 2)
        self.assertEqual(again.merge(copy), 0)
        self.assertEqual(again.tell(8, "a", "w"), (4, 2, (8, "a", "w")))

    def test_made_copies(self):
        chance = random.Random(152)
        for _ in range(40):
            endings = chance.choice([(), S_ENDING, (("b", 1), ("c", 2))])
            copy = made_copy(chance, endings)
            data = file_of(copy)
            found = self.assert_opened(data, endings, copy.held(), len(data))
            self.assertEqual(file_of(found), data)

    def test_80_tellings_and_12_keys(self):
        told = [(stamp, 1, (stamp, "k" + str(stamp % 12), "x")) for stamp in range(1, 81)]
        data, behind = file_plainly((), told)
        self.assert_opened(data, (), told, behind[-1])

    def test_the_largest_and_smallest_of_everything(self):
        told = [(10 ** 40, 9, (100000, "zzzzzzzz", "~" * 400)), (1, 1, (0, "0", "")), (1, 9, (0, "9", "\n")), (2, 9, (0, "9", None))]
        data, behind = file_plainly((), told)
        copy = self.assert_opened(data, (), told, behind[-1], 9)
        self.assertEqual(copy.tell(1, "a", "x"), (10 ** 40 + 1, 9, (1, "a", "x")))

    def test_the_copy_is_new_each_time(self):
        data = file_of(copy_of(2, [(5, "a", "x")]))
        opened(data, 3)[0].tell(6, "a", "y")
        self.assert_opened(data, (), [(1, 2, (5, "a", "x"))], len(data))


class Cut(Opened):
    def test_at_every_byte(self):
        chance = random.Random(153)
        for endings in ((), S_ENDING):
            copy = made_copy(chance, endings)
            data, behind = file_plainly(endings, copy.held())
            self.assertEqual(data, file_of(copy))
            for end in range(len(data) + 1):
                whole = len([at for at in behind if at <= end])
                if whole == 0:
                    self.assert_invalid(data[:end])
                else:
                    self.assert_opened(data[:end], endings, copy.held()[:whole - 1], behind[whole - 1])

    def test_what_is_behind_a_cut_does_not_matter(self):
        copy = copy_of(1, [(5, "a", "x"), (6, "a", "y"), (7, "a", "z")])
        data, behind = file_plainly((), copy.held())
        for number in range(4):
            for garbage in ([0], [255], [128, 0], [0, 8], [1, 0, 0], [200] * 9):
                self.assert_opened(data[:behind[number]] + garbage + data[behind[number]:], (),
                                   copy.held()[:number], behind[number])

    def test_each_byte_changed(self):
        copy = copy_of(1, [(5, "a", "x y"), (6, "a", None), (7, "b", "z")], S_ENDING)
        data, behind = file_plainly(S_ENDING, copy.held())
        for at, byte in enumerate(data):
            for other in ((byte + 1) % 256, byte ^ 128):
                changed = data[:at] + [other] + data[at + 1:]
                whole = len([index for index in behind if index <= at])
                if whole == 0:
                    self.assert_invalid(changed)
                else:
                    self.assert_opened(changed, S_ENDING, copy.held()[:whole - 1], behind[whole - 1])

    def test_a_first_record_that_is_not_whole(self):
        for data in ([], [0], [1], [1, 0], [1, 0, 218], [1, 0, 219, 1], [1, 0, 217, 1], [2, 0, 218, 1], [0, 218, 1],
                     [128, 1, 0, 218, 1], [129, 0, 0, 218, 1], [255] * 300):
            self.assert_invalid(data)

    def test_a_first_record_without_endings(self):
        bodies = [[], [1], [1, 1, 115], [2, 1, 115, 3], [1, 0, 3], [1, 5] + [115] * 5 + [3], [1, 1, 83, 3], [1, 1, 45, 3],
                  [1, 1, 32, 3], [1, 1, 10, 3], [1, 1, 37, 3], [1, 1, 115, 0], [1, 1, 115, 10], [1, 1, 115, 131, 0],
                  [1, 1, 115, 128], [0, 0], [0, 1], [1, 1, 115, 3, 0], [1, 1, 115, 3, 3], [128, 0], [129],
                  [3, 1, 115, 3, 1, 115, 3, 1, 115, 10], [3, 1, 115, 3, 1, 83, 3, 1, 115, 3],
                  [10] + [1, 115, 3] * 10, [10] + [1, 115, 3] * 9, [9] + [1, 115, 3] * 10, [9] + [1, 115, 3] * 8,
                  number_plainly(10 ** 30), number_plainly(128) + [1, 115, 3] * 128,
                  telling_plainly((1, 1, (5, "a", "x"))), text_plainly("s") + [3]]
        rest = record_plainly(telling_plainly((1, 1, (5, "a", "x"))))
        for body in bodies:
            self.assert_invalid(record_plainly(body))
            self.assert_invalid(record_plainly(body) + rest)
            self.assert_invalid(record_plainly(body) + record_plainly([0]) + rest)
        nine = [9] + [1, 115, 3] * 9
        self.assert_opened(record_plainly(nine), S_ENDING * 9, [], len(record_plainly(nine)))


class Damaged(Opened):
    """Records that are whole, but no tellings that can stand there."""

    def assert_stops(self, body, before=((1, 2, (5, "a", "x")), (7, 1, (6, "b", None)))):
        """The copy has the tellings before this record, whatever is behind it."""
        data, behind = file_plainly((), before)
        later = record_plainly(telling_plainly((99, 8, (5, "a", "later"))))
        for rest in ([], later):
            self.assert_opened(data + record_plainly(body) + rest, (), list(before), behind[-1])
        self.assertEqual(opened(data + later, 3)[0].held()[-1], (99, 8, (5, "a", "later")))

    def test_a_telling_like_these_is_taken(self):
        for told in ((3, 3, (5, "a", "x")), (8, 9, (100000, "b", "y")), (2, 2, (0, "zzzzzzzz", None))):
            data, behind = file_plainly((), [(1, 2, (5, "a", "x")), told])
            self.assert_opened(data, (), [(1, 2, (5, "a", "x")), told], behind[-1])

    def test_stamps_and_sources(self):
        self.assert_stops(telling_plainly((0, 3, (5, "a", "x"))))
        for source in (0, 10, 11, 128, 10 ** 20):
            self.assert_stops(telling_plainly((3, source, (5, "a", "x"))))
            self.assert_stops(telling_plainly((3, source, (5, "a", None))))

    def test_times(self):
        for time in (100001, 100128, 10 ** 20):
            self.assert_stops(telling_plainly((3, 3, (time, "a", "x"))))
            self.assert_stops(telling_plainly((3, 3, (time, "a", None))))

    def test_keys_that_are_none(self):
        for key in ("", "abcdefghi", "A", "a b", "a-", "\n", " "):
            self.assert_stops(telling_plainly((3, 3, (5, key, "x"))))
            self.assert_stops(telling_plainly((3, 3, (5, key, None))))
        for code in (37, 9, 0, 127, 200):
            self.assert_stops([3, 3, 5, 1, code, 0])

    def test_texts_that_are_none(self):
        self.assert_stops(telling_plainly((3, 3, (5, "a", "x" * 401))))
        for code in (37, 9, 0, 13, 127, 200):
            self.assert_stops([3, 3, 5, 1, 97, 1, 1, code])
            self.assert_stops([3, 3, 5, 1, 97, 1, 3, 97, code, 97])
        self.assert_stops([3, 3, 5, 1, 97, 1, 2, 97])
        self.assert_stops([3, 3, 5, 1, 97, 1])

    def test_the_kind(self):
        for kind in (2, 3, 97, 127):
            self.assert_stops([3, 3, 5, 1, 97, kind])
            self.assert_stops([3, 3, 5, 1, 97, kind, 1, 120])
            self.assert_stops([3, 3, 5, 1, 97, kind, 0])
        self.assert_stops([3, 3, 5, 1, 97, 129, 0, 1, 120])
        self.assert_stops([3, 3, 5, 1, 97, 128, 0])

    def test_bytes_behind(self):
        for byte in (0, 1, 128):
            self.assert_stops(telling_plainly((3, 3, (5, "a", "x"))) + [byte])
            self.assert_stops(telling_plainly((3, 3, (5, "a", None))) + [byte])
        self.assert_stops([3, 3, 5, 1, 97, 0, 1, 120])
        self.assert_stops(telling_plainly((3, 3, (5, "a", "x"))) * 2)

    def test_bodies_that_are_cut(self):
        for change in ((5, "a", "x"), (5, "a", None), (300, "abc", "xyz")):
            body = telling_plainly((300, 3, change))
            for end in range(len(body)):
                if body[:end] != telling_plainly((300, 3, (5, "a", None))):
                    self.assert_stops(body[:end])

    def test_integers_that_are_written_otherwise(self):
        self.assert_stops([131, 0, 3, 5, 1, 97, 0])
        self.assert_stops([3, 131, 0, 5, 1, 97, 0])
        self.assert_stops([3, 3, 133, 0, 1, 97, 0])
        self.assert_stops([3, 3, 5, 129, 0, 97, 0])

    def test_a_stamp_and_source_that_is_there_already(self):
        self.assert_stops(telling_plainly((1, 2, (5, "a", "x"))))
        self.assert_stops(telling_plainly((1, 2, (5, "a", "y"))))
        self.assert_stops(telling_plainly((7, 1, (6, "b", "y"))))
        data, behind = file_plainly((), [(1, 2, (5, "a", "x")), (1, 1, (5, "a", "x")), (2, 2, (5, "a", "x"))])
        self.assert_opened(data, (), [(1, 2, (5, "a", "x")), (1, 1, (5, "a", "x")), (2, 2, (5, "a", "x"))], behind[-1])

    def test_the_81st_telling(self):
        told = [(stamp, 1, (5, "a", None)) for stamp in range(1, 82)]
        data, behind = file_plainly((), told)
        self.assert_opened(data, (), told[:80], behind[80])

    def test_the_thirteenth_key(self):
        told = [(stamp, 1, (5, "k" + str(stamp), None)) for stamp in range(1, 13)]
        self.assertEqual(len(told), 12)
        more = told + [(13, 1, (5, "k3", "x")), (14, 1, (5, "new", "x")), (15, 1, (5, "k4", "x"))]
        data, behind = file_plainly((), more)
        self.assert_opened(data, (), more[:13], behind[13])

    def test_the_endings_again(self):
        self.assert_stops(endings_plainly(()))
        self.assert_stops(endings_plainly(S_ENDING))
        self.assert_stops([])
