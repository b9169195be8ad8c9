"""[t1] to [t3]: timelines, spans and lengths, against the times themselves."""

import random
import unittest

from timeshelf.times import is_in, join, length_before, meet, of_span, rest, spans

END = 80


def told(timeline):
    """The times up to END that a timeline has, by the words of [c3]."""
    times = set()
    for time in range(END + 1):
        if len([point for point in timeline if point <= time]) % 2 == 1:
            times.add(time)
    return times


def many_timelines():
    """Timelines with change points up to 60, so that every time behind them is alike."""
    chance = random.Random(20)
    rows = [(), (0,), (1,), (0, 1), (0, 60), (3, 7), (5, 9), (3, 9), (7, 9), (3, 5, 7), (0, 4, 5), (59, 60)]
    for count in range(12):
        for first in ([], [0]):
            rows.append(tuple(sorted(set(first + chance.sample(range(60), count)))))
            rows.append(tuple(sorted(set(first + chance.sample(range(12), count)))))
    return rows


class Examples(unittest.TestCase):
    def test_of_the_interface(self):
        self.assertEqual(join((3, 7), (5, 9)), (3, 9))
        self.assertEqual(rest((0, 4)), (4,))
        self.assertEqual(spans((1, 3, 8)), [(1, 3), (8, None)])

    def test_of_the_shapes(self):
        self.assertEqual([time for time in range(100) if is_in((), time)], [])
        self.assertEqual([time for time in range(100) if is_in((0,), time)], list(range(100)))
        self.assertEqual([time for time in range(100) if is_in((3, 7), time)], [3, 4, 5, 6])


class Sets(unittest.TestCase):
    def assert_has(self, timeline, times):
        self.assertIsInstance(timeline, tuple)
        self.assertEqual(timeline, tuple(sorted(set(timeline))))
        self.assertEqual(told(timeline), times)

    def test_the_timelines_are_of_each_kind(self):
        rows = many_timelines()
        self.assertTrue([row for row in rows if row[:1] == (0,) and len(row) % 2 == 0])
        self.assertTrue([row for row in rows if row[:1] == (0,) and len(row) % 2 == 1])
        self.assertTrue([row for row in rows if row[:1] > (0,) and len(row) % 2 == 0])
        self.assertTrue([row for row in rows if row[:1] > (0,) and len(row) % 2 == 1])

    def test_is_in(self):
        for row in many_timelines():
            found = [is_in(row, time) for time in range(END + 1)]
            self.assertEqual(found, [time in told(row) for time in range(END + 1)])
            self.assertTrue(all(answer is True or answer is False for answer in found))

    def test_rest(self):
        for row in many_timelines():
            self.assert_has(rest(row), set(range(END + 1)) - told(row))
            self.assertEqual(rest(rest(row)), row)

    def test_join_and_meet(self):
        rows = many_timelines()
        for one in rows:
            for other in rows:
                self.assert_has(join(one, other), told(one) | told(other))
                self.assert_has(meet(one, other), told(one) & told(other))

    def test_same_times_exactly_if_equal(self):
        self.assertEqual(join((3, 5), (5, 9)), (3, 9))
        self.assertEqual(join((3, 5), (5,)), (3,))
        self.assertEqual(join((0, 5), (3,)), (0,))
        self.assertEqual(meet((3, 5), (5, 9)), ())
        self.assertEqual(meet((3, 9), (3, 9)), (3, 9))
        self.assertEqual(meet((0,), (0,)), (0,))

    def test_late_and_long_timelines(self):
        long = tuple(range(0, 100000, 2))
        self.assertEqual(join(long, rest(long)), (0,))
        self.assertEqual(meet(long, rest(long)), ())
        self.assertTrue(is_in((100000,), 100000))
        self.assertFalse(is_in((100000,), 99999))


class Spans(unittest.TestCase):
    def test_of_span(self):
        self.assertEqual(of_span(3, 7), (3, 7))
        self.assertEqual(of_span(0, 1), (0, 1))
        self.assertEqual(of_span(3, None), (3,))
        self.assertEqual(of_span(0, None), (0,))

    def test_of_span_has_the_times_of_the_span(self):
        for start in range(6):
            self.assertEqual(told(of_span(start, None)), set(range(start, END + 1)))
            for end in range(start + 1, 8):
                self.assertEqual(told(of_span(start, end)), set(range(start, end)))

    def test_spans(self):
        self.assertEqual(spans(()), [])
        self.assertEqual(spans((0,)), [(0, None)])
        self.assertEqual(spans((4,)), [(4, None)])
        self.assertEqual(spans((0, 4)), [(0, 4)])
        self.assertEqual(spans((2, 4, 6, 9)), [(2, 4), (6, 9)])

    def test_spans_tell_the_timeline(self):
        for row in many_timelines():
            found = spans(row)
            self.assertEqual(found, sorted(found, key=lambda span: span[0]))
            times = set()
            for start, end in found:
                times |= set(range(start, END + 1 if end is None else end))
            self.assertEqual(times, told(row))
            # The longest ones: no two of them touch.
            for before, behind in zip(found, found[1:]):
                self.assertLess(before[1], behind[0])

    def test_the_list_is_new_each_time(self):
        row = (1, 3, 8)
        spans(row).append("more")
        self.assertEqual(spans(row), [(1, 3), (8, None)])


class Lengths(unittest.TestCase):
    def test_before_a_time(self):
        row = (2, 5, 8)
        self.assertEqual(length_before(row, 0), 0)
        self.assertEqual(length_before(row, 2), 0)
        self.assertEqual(length_before(row, 3), 1)
        self.assertEqual(length_before(row, 5), 3)
        self.assertEqual(length_before(row, 7), 3)
        self.assertEqual(length_before(row, 8), 3)
        self.assertEqual(length_before(row, 9), 4)
        self.assertEqual(length_before(row, 100000), 3 + 100000 - 8)
        self.assertEqual(length_before((2, 5), 100000), 3)

    def test_of_all_and_of_no_times(self):
        for time in (0, 1, 50, 100000):
            self.assertEqual(length_before((), time), 0)
            self.assertEqual(length_before((0,), time), time)

    def test_against_the_times(self):
        for row in many_timelines():
            times = told(row)
            for time in range(END + 2):
                self.assertEqual(length_before(row, time), len([t for t in times if t < time]))
