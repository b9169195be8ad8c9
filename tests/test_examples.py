"""All examples of the interface, word by word; each block begins anew.

>>> from timeshelf.times import join, rest, spans
>>> join((3, 7), (5, 9))
(3, 9)
>>> rest((0, 4))
(4,)
>>> spans((1, 3, 8))
[(1, 3), (8, None)]

----

>>> from timeshelf.words import document_of
>>> document_of("Old Mills, by the-weir!", (("s", 3),))
('old', 'mill', 'by', 'the', 'weir')

----

>>> from timeshelf.matching import matches, standings
>>> from timeshelf.questions import read_question
>>> read_question('"old mill*" | -<2 a b>')
('or', (('row', (('word', 'old'), ('start', 'mill')), 0), ('not', ('row', (('word', 'a'), ('word', 'b')), 2))))
>>> standings(("a", "b", "a", "b"), ("row", (("word", "a"), ("word", "b")), 1))
[(0, 1), (2, 3)]
>>> matches(("a", "b"), read_question("-a | b"))
True

----

>>> from timeshelf.alike import least_witness
>>> from timeshelf.questions import read_question
>>> least_witness(read_question("a* b"), read_question("b (a | a*)"), 10)
>>> least_witness(read_question("a*"), read_question("a"), 10)
('a0',)

----

>>> from timeshelf.questions import read_question
>>> from timeshelf.shelves import Shelf
>>> shelf = Shelf((("s", 3),))
>>> shelf.tell(1, "a", "the old mill")
>>> shelf.tell(9, "a", "Mill")
>>> shelf.tell(4, "a", "the mills by the weir")
>>> shelf.tell(6, "a", None)
>>> shelf.plain_answer(read_question("mill"))
{'a': (1, 6, 9)}
>>> shelf.plain_answer(read_question("-the mill"))
{'a': (9,)}

----

>>> from timeshelf.index import Index
>>> from timeshelf.questions import read_question
>>> index = Index(())
>>> index.tell(1, "a", "the mill the weir")
>>> index.work()
(0, 3)
>>> index.postings("the")
[('the', 'a', 1, None, (0, 2))]
>>> index.tell(5, "a", "the mill")
>>> index.work()
(3, 5)
>>> index.answer(read_question("mill"))
{'a': (1,)}
>>> index.read(read_question("-weir"))
3

----

>>> from timeshelf.merging import Copy
>>> one = Copy(1, ())
>>> other = Copy(2, ())
>>> one.tell(5, "a", "old mill")
(1, 1, (5, 'a', 'old mill'))
>>> other.tell(5, "a", "new mill")
(1, 2, (5, 'a', 'new mill'))
>>> one.merge(other)
1
>>> one.shelf().document("a", 7)
('new', 'mill')
"""

import doctest
import unittest

BLOCKS = __doc__.split("----")


class Examples(unittest.TestCase):
    def test_each_block(self):
        self.assertEqual(len(BLOCKS), 7)
        for block in BLOCKS:
            test = doctest.DocTestParser().get_doctest(block, {}, "an example of the interface", None, None)
            self.assertGreater(len(test.examples), 1)
            results = doctest.DocTestRunner(verbose=False).run(test)
            self.assertEqual((results.failed, results.attempted), (0, len(test.examples)), block)
