"""[c4]: each class of error, its base class, its fields in their order."""

import inspect
import unittest

from timeshelf import errors

FIELDS = {
    "QuestionFault": ["place", "word"],
    "InvalidChange": ["word"],
    "InvalidBytes": ["at"],
    "OtherShelf": [],
    "TooMany": ["limit"],
    "NoSuchKey": ["key"],
    "WrongPaper": ["at"],
}


class Errors(unittest.TestCase):
    def test_base_class(self):
        self.assertEqual(errors.ShelfError.__bases__, (ValueError,))
        self.assertIsInstance(errors.ShelfError(), ValueError)

    def test_each_class_stands_directly_below_the_base_class(self):
        for name in FIELDS:
            self.assertEqual(getattr(errors, name).__bases__, (errors.ShelfError,), name)

    def test_there_are_no_other_classes(self):
        names = [name for name, _ in inspect.getmembers(errors, inspect.isclass)]
        self.assertEqual(sorted(names), sorted(list(FIELDS) + ["ShelfError"]))

    def test_fields_in_their_order(self):
        values = [17, "a word"]
        for name, fields in FIELDS.items():
            error = getattr(errors, name)(*values[:len(fields)])
            self.assertEqual(list(vars(error).items()), list(zip(fields, values)), name)

    def test_fields_by_name(self):
        fault = errors.QuestionFault(word="end", place=3)
        self.assertEqual((fault.place, fault.word), (3, "end"))

    def test_wrong_number_of_arguments(self):
        for name, fields in FIELDS.items():
            if fields:
                for count in (len(fields) - 1, len(fields) + 1):
                    with self.assertRaises(TypeError, msg=name):
                        getattr(errors, name)(*range(count))

    def test_they_are_raised_and_caught(self):
        for name, fields in FIELDS.items():
            for base in (getattr(errors, name), errors.ShelfError, ValueError):
                with self.assertRaises(base):
                    raise getattr(errors, name)(*range(len(fields)))
