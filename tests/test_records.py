"""[f4], [f5]: integers and strings as bytes, and records."""

import random
import unittest

from plain import number_plainly, record_plainly, sum_plainly, text_plainly
from timeshelf.records import number_bytes, read_number, read_record, read_text, record_of, text_bytes

NUMBERS = {
    0: [0], 1: [1], 127: [127], 128: [128, 1], 129: [129, 1], 255: [255, 1], 256: [128, 2], 300: [172, 2],
    16383: [255, 127], 16384: [128, 128, 1], 100000: [160, 141, 6], 2 ** 31: [128, 128, 128, 128, 8],
    128 ** 9: [128] * 9 + [1], 128 ** 40 - 1: [255] * 39 + [127], 128 ** 40: [128] * 40 + [1],
}

# [c1]: newlines and the characters from the space to "~", without the percent sign.
CODES = [10] + [code for code in range(32, 127) if code != 37]
EVERY = "".join(chr(code) for code in CODES)


class Numbers(unittest.TestCase):
    def test_by_hand(self):
        for number, data in NUMBERS.items():
            self.assertEqual(number_bytes(number), data)
            self.assertEqual(read_number(data, 0), (number, len(data)))

    def test_many(self):
        for number in list(range(70000)) + [2 ** power + more for power in range(17, 300) for more in (-1, 0, 1)]:
            data = number_bytes(number)
            self.assertEqual(data, number_plainly(number))
            self.assertEqual(read_number(data, 0), (number, len(data)))

    def test_each_byte(self):
        for byte in range(256):
            self.assertEqual(read_number([byte], 0), (byte, 1) if byte < 128 else None)

    def test_cut_bytes(self):
        for data in NUMBERS.values():
            for end in range(len(data)):
                self.assertIsNone(read_number(data[:end], 0))
                self.assertIsNone(read_number([5] + data[:end], 1))

    def test_the_empty_list_and_behind_the_end(self):
        self.assertIsNone(read_number([], 0))
        self.assertIsNone(read_number([], 5))
        self.assertIsNone(read_number([1, 2], 2))
        self.assertIsNone(read_number([1, 2], 3))

    def test_a_last_digit_0_with_others_before_it(self):
        for data in ([128, 0], [129, 0], [255, 0], [128, 128, 0], [129, 128, 0], [255, 255, 0]):
            self.assertIsNone(read_number(data, 0))
            self.assertIsNone(read_number([7] + data + [7], 1))
        self.assertEqual(read_number([128, 0], 1), (0, 2))
        self.assertEqual(read_number([128, 128, 1], 0), (16384, 3))

    def test_other_bytes_before_and_behind(self):
        for number, data in NUMBERS.items():
            for before in ([], [0], [255], [1, 2, 128]):
                for behind in ([], [0], [255], [1]):
                    self.assertEqual(read_number(before + data + behind, len(before)), (number, len(before + data)))

    def test_the_bytes_are_new_and_not_modified(self):
        number_bytes(5).append(1)
        self.assertEqual(number_bytes(5), [5])
        data = [172, 2, 9]
        read_number(data, 0)
        self.assertEqual(data, [172, 2, 9])


class Texts(unittest.TestCase):
    def test_by_hand(self):
        for text, data in {"": [0], "a": [1, 97], "\n": [1, 10], "a b\n": [4, 97, 32, 98, 10], "~ ": [2, 126, 32],
                           "x" * 128: [128, 1] + [120] * 128}.items():
            self.assertEqual(text_bytes(text), data)
            self.assertEqual(read_text(data, 0), (text, len(data)))

    def test_all_characters(self):
        self.assertEqual(text_bytes(EVERY), [95] + CODES)
        self.assertEqual(read_text([95] + CODES, 0), (EVERY, 96))
        for code in CODES:
            self.assertEqual(read_text([1, code], 0), (chr(code), 2))

    def test_other_codes(self):
        for code in range(256):
            if code not in CODES:
                self.assertIsNone(read_text([1, code], 0), code)
                self.assertIsNone(read_text([3, 97, code, 97], 0), code)
                # What is behind the string does not matter.
                self.assertEqual(read_text([1, 97, code], 0), ("a", 2))
        self.assertIsNone(read_text([1, ord("%")], 0))

    def test_cut_strings(self):
        for text in ("a", "a b\n", EVERY, "x" * 400):
            data = text_plainly(text)
            for end in range(len(data)):
                self.assertIsNone(read_text(data[:end], 0))
        self.assertIsNone(read_text([], 0))
        self.assertIsNone(read_text([0], 1))
        self.assertIsNone(read_text([5], 9))

    def test_lengths_that_are_none(self):
        self.assertIsNone(read_text([129, 0, 97], 0))
        self.assertIsNone(read_text([255] * 9 + [1, 97], 0))
        self.assertIsNone(read_text([255] * 300 + [1, 97], 0))

    def test_other_bytes_before_and_behind(self):
        for text in ("", "a", "a b\n", EVERY, "x" * 400, "x" * 3000):
            data = text_plainly(text)
            self.assertEqual(text_bytes(text), data)
            for before in ([], [0], [255, 1]):
                for behind in ([], [0], [97], [255]):
                    self.assertEqual(read_text(before + data + behind, len(before)), (text, len(before + data)))

    def test_the_bytes_are_new_and_not_modified(self):
        text_bytes("a").append(1)
        self.assertEqual(text_bytes("a"), [1, 97])
        data = [1, 97, 9]
        read_text(data, 0)
        self.assertEqual(data, [1, 97, 9])


class Records(unittest.TestCase):
    def test_by_hand(self):
        # The sums: 7; 31 * 7 + 0 + 1; 31 * 223 + 2 + 1 is 6916.
        self.assertEqual(record_of([]), [0, 7])
        self.assertEqual(record_of([0]), [1, 0, 218, 1])
        self.assertEqual(record_of([5, 2]), [2, 5, 2, 132, 54])
        # 31 * 6916 + 255 + 1 is 214652; 3 * 65521 less.
        self.assertEqual(record_of([5, 2, 255]), [3, 5, 2, 255] + number_plainly(18089))
        for body in ([], [0], [5, 2], [5, 2, 255]):
            self.assertEqual(read_record(record_of(body), 0), (body, len(record_of(body))))

    def test_long_bodies(self):
        chance = random.Random(131)
        for length in (126, 127, 128, 129, 400, 16383, 16384, 19000):
            body = [chance.randrange(256) for _ in range(length)]
            data = record_of(body)
            self.assertEqual(data, record_plainly(body))
            self.assertEqual(read_record(data, 0), (body, len(data)))
            self.assertEqual(read_record([9] + data + [9], 1), (body, len(data) + 1))

    def bodies(self):
        chance = random.Random(132)
        return [[chance.choice([0, 5, 127, 128, 255, chance.randrange(256)]) for _ in range(length)]
                for length in (0, 1, 2, 3, 20, 127, 128, 200)]

    def test_each_byte_cut_off(self):
        for body in self.bodies():
            data = record_plainly(body)
            for end in range(len(data)):
                self.assertIsNone(read_record(data[:end], 0))
                self.assertIsNone(read_record([1, 2] + data[:end], 2))

    def test_each_byte_changed(self):
        for body in self.bodies():
            data = record_plainly(body)
            begin = len(number_plainly(len(body)))
            for at, byte in enumerate(data):
                for other in {0, 1, 127, 128, 255, byte ^ 1, byte ^ 128, (byte + 1) % 256} - {byte}:
                    changed = data[:at] + [other] + data[at + 1:]
                    found = read_record(changed, 0)
                    if begin <= at < begin + len(body):
                        self.assertIsNone(found)
                    # With another length or another sum it is no record of this body, at the least.
                    self.assertNotEqual(found, (body, len(data)))

    def test_the_sum_is_looked_at(self):
        for told in (0, 1, 6, 8, 7 + 65521, 2 ** 31):
            self.assertIsNone(read_record([0] + number_plainly(told), 0))
        self.assertIsNone(read_record([0, 135, 0], 0))
        self.assertEqual(read_record([0, 7], 0), ([], 2))
        self.assertEqual(sum_plainly([5, 2], 65521), 6916)
        self.assertIsNone(read_record([2, 5, 2] + number_plainly(6916 + 65521), 0))

    def test_a_length_that_is_none(self):
        self.assertIsNone(read_record([], 0))
        self.assertIsNone(read_record([128, 0, 7], 0))
        self.assertIsNone(read_record([255] * 200 + [1, 7], 0))

    def test_the_index_behind(self):
        bodies = self.bodies()
        data = [byte for body in bodies for byte in record_plainly(body)]
        at = 0
        for body in bodies:
            found, behind = read_record(data, at)
            self.assertEqual(found, body)
            self.assertEqual(behind, at + len(record_plainly(body)))
            at = behind
        self.assertEqual(at, len(data))
        self.assertIsNone(read_record(data, at))
        self.assertIsNone(read_record(data, at + 1))

    def test_anywhere_in_the_bytes(self):
        chance = random.Random(133)
        whole = 0
        for _ in range(60):
            data = [chance.choice([0, 0, 1, 2, 7, 218, 128]) for _ in range(40)]
            for at in range(42):
                # The plain way: all bodies that could stand there.
                expected = None
                for length in range(41):
                    for head in range(1, 3):
                        body = data[at + head:at + head + length]
                        end = at + len(record_plainly(body))
                        if len(body) == length and data[at:end] == record_plainly(body):
                            expected = (body, end)
                self.assertEqual(read_record(data, at), expected)
                whole += expected is not None
        self.assertGreater(whole, 30)

    def test_the_bytes_are_new_and_not_modified(self):
        body = [5, 2]
        data = record_of(body)
        data.append(1)
        self.assertEqual(body, [5, 2])
        self.assertEqual(record_of(body), [2, 5, 2, 132, 54])
        found, _ = read_record(data, 0)
        found.append(9)
        self.assertEqual(data, [2, 5, 2, 132, 54, 1])
        empty = []
        record_of(empty).append(3)
        self.assertEqual(empty, [])
