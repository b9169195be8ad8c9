"""[c6], and the opening of "The interface": the files, what they import, the names and arguments."""

import ast
import doctest
import importlib
import inspect
import pathlib
import unittest

ROOT = pathlib.Path(__file__).resolve().parent.parent
PACKAGE = ROOT / "timeshelf"

# The order of [c6].
ORDER = [
    "errors",
    "times", "words",
    "tokens", "questions", "writing",
    "matching", "evidence", "alike",
    "changes", "shelves",
    "postings", "answering", "index",
    "sums", "tree", "papers", "judge",
    "records", "merging", "files",
]

INTERFACE = {
    "times": {
        "is_in": ["timeline", "time"],
        "join": ["one", "other"],
        "meet": ["one", "other"],
        "rest": ["timeline"],
        "of_span": ["start", "end"],
        "spans": ["timeline"],
        "length_before": ["timeline", "time"],
    },
    "words": {
        "words_of": ["text"],
        "cut": ["word", "endings"],
        "document_of": ["text", "endings"],
    },
    "tokens": {"tokens": ["text"]},
    "questions": {
        "read_question": ["text"],
        "begins": ["tokens"],
        "size": ["question"],
        "patterns_of": ["question"],
    },
    "writing": {"write_question": ["question"]},
    "matching": {
        "fits": ["word", "pattern"],
        "standings": ["document", "row"],
        "matches": ["document", "question"],
    },
    "evidence": {
        "evidence_for": ["document", "question"],
        "check_evidence": ["document", "question", "evidence"],
    },
    "alike": {
        "is_simple": ["question"],
        "candidates": ["one", "other"],
        "least_witness": ["one", "other", "most"],
    },
    "changes": {
        "check_change": ["change"],
        "counted": ["changes"],
    },
    "postings": {
        "places_of": ["history", "key"],
        "postings_of": ["history", "key"],
    },
    "answering": {
        "needs_all": ["question"],
        "answer_by": ["question", "places", "postings"],
    },
    "sums": {
        "sum_of": ["row", "modulus"],
        "row_of_leaf": ["leaf"],
    },
    "tree": {
        "tree": ["leaves", "modulus"],
        "sides": ["levels", "first", "last"],
        "top_from": ["sums", "first", "count", "sides", "modulus"],
    },
    "papers": {
        "leaves_of": ["index"],
        "digest": ["index", "modulus"],
        "paper_of": ["index", "question", "modulus"],
    },
    "judge": {
        "judged": ["digest", "question", "paper"],
        "collision": ["index", "modulus", "paper"],
    },
    "records": {
        "number_bytes": ["n"],
        "text_bytes": ["text"],
        "read_number": ["data", "at"],
        "read_text": ["data", "at"],
        "record_of": ["body"],
        "read_record": ["data", "at"],
    },
    "merging": {"compacted": ["tellings"]},
    "files": {
        "file_of": ["copy"],
        "opened": ["data", "source"],
    },
}

CLASSES = {
    "shelves": {
        "Shelf": {
            "__init__": ["endings"],
            "tell": ["time", "key", "text"],
            "endings": [],
            "changes": [],
            "known_keys": [],
            "history": ["key"],
            "document": ["key", "time"],
            "plain_answer": ["question"],
        },
    },
    "index": {
        "Index": {
            "__init__": ["endings"],
            "tell": ["time", "key", "text"],
            "work": [],
            "shelf": [],
            "versions": [],
            "words": [],
            "postings": ["word"],
            "words_for": ["pattern"],
            "answer": ["question"],
            "read": ["question"],
        },
    },
    "merging": {
        "Copy": {
            "__init__": ["source", "endings"],
            "source": [],
            "endings": [],
            "tellings": [],
            "held": [],
            "tell": ["time", "key", "text"],
            "merge": ["other"],
            "shelf": [],
        },
    },
}


def trees():
    return {path.stem: ast.parse(path.read_text("ascii")) for path in PACKAGE.glob("*.py")}


class Files(unittest.TestCase):
    def test_the_folder_holds_just_the_files_of_the_document(self):
        names = [path.name for path in PACKAGE.iterdir() if path.name != "__pycache__"]
        self.assertEqual(sorted(names), sorted([name + ".py" for name in ORDER] + ["__init__.py"]))

    def test_each_imports_only_those_above_it(self):
        for name, tree in trees().items():
            above = ORDER[:ORDER.index(name)] if name in ORDER else []
            for node in ast.walk(tree):
                self.assertNotIsInstance(node, ast.Import, name)
                if isinstance(node, ast.ImportFrom):
                    self.assertEqual(node.level, 0, name)
                    self.assertIn(node.module, ["timeshelf." + other for other in above], name)

    def test_size_and_characters(self):
        for path in PACKAGE.glob("*.py"):
            lines = path.read_text("ascii").split("\n")
            self.assertLess(len(lines), 400, path.name)
            for line in lines:
                self.assertLessEqual(len(line), 120, path.name)
                self.assertTrue(line == "" or line.isprintable(), path.name)

    def test_size_of_functions(self):
        for name, tree in trees().items():
            for node in ast.walk(tree):
                if isinstance(node, ast.FunctionDef):
                    self.assertLessEqual(node.end_lineno - node.lineno, 39, (name, node.name))


class Interface(unittest.TestCase):
    def test_names_and_arguments(self):
        for name, functions in INTERFACE.items():
            module = importlib.import_module("timeshelf." + name)
            for function, arguments in functions.items():
                found = getattr(module, function)
                self.assertEqual(found.__module__, "timeshelf." + name)
                self.assertEqual(list(inspect.signature(found).parameters), arguments, function)

    def test_classes_and_their_own_methods(self):
        for name, classes in CLASSES.items():
            module = importlib.import_module("timeshelf." + name)
            for kind, methods in classes.items():
                found = getattr(module, kind)
                self.assertEqual(found.__module__, "timeshelf." + name)
                for method, arguments in methods.items():
                    # Looked up in the class itself: a method of a base class is not enough.
                    parameters = list(inspect.signature(vars(found)[method]).parameters)
                    self.assertEqual(parameters, ["self"] + arguments, (kind, method))

    def test_examples_of_the_readme(self):
        results = doctest.testfile(str(ROOT / "README.md"), module_relative=False)
        self.assertGreater(results.attempted, 0)
        self.assertEqual(results.failed, 0)
