"""[0]: what the program promises, over all of it."""

import random
import unittest

from making import QUESTIONS, made_question, made_text
from plain import answer_plainly, document_plainly, history_plainly, keys_plainly, leaves_plainly, matches_plainly
from timeshelf.alike import candidates, is_simple, least_witness
from timeshelf.errors import ShelfError
from timeshelf.evidence import check_evidence, evidence_for
from timeshelf.files import file_of, opened
from timeshelf.index import Index
from timeshelf.judge import collision, judged
from timeshelf.merging import Copy, compacted
from timeshelf.papers import digest, leaves_of, paper_of
from timeshelf.questions import read_question
from timeshelf.shelves import Shelf
from timeshelf.words import document_of

KEYS = ("a", "b", "10")


class Deeds:
    """Deeds on three copies, drawn one by one."""

    def __init__(self, chance):
        self.chance = chance
        self.endings = chance.choice([(), (("b", 1),), (("c", 2), ("bc", 1))])
        self.copies = [Copy(source, self.endings) for source in (1, 2, 3)]
        self.sources = [4, 5, 6, 7, 8, 9]

    def draw(self):
        at = self.chance.randrange(3)
        deed = self.chance.random()
        if deed < 0.6:
            self.copies[at].tell(self.chance.randrange(6), self.chance.choice(KEYS), made_text(self.chance, 4))
        elif deed < 0.85 or not self.sources:
            self.copies[at].merge(self.chance.choice(self.copies))
        else:
            self.cut(at)

    def cut(self, at):
        """Cuts the file of a copy and opens it; a copy of which something is lost may not go on with its source."""
        data = file_of(self.copies[at])
        least = len(file_of(Copy(1, self.endings)))
        end = self.chance.randrange(least, len(data) + 1)
        held = self.copies[at].held()
        found, behind = opened(data[:end], self.sources.pop())
        assert found.held() == held[:len(found.held())]
        assert behind <= end and data[:behind] == file_of(found)
        self.copies[at] = found

    def merge_all(self):
        one, other, third = self.copies
        one.merge(third)
        other.merge(one)
        one.merge(other)
        third.merge(one)


class Whole(unittest.TestCase):
    def assert_answers(self, index, changes, endings, questions):
        """The index, and the judge, come to the plain answers."""
        for question in questions:
            answer = answer_plainly(changes, endings, question)
            self.assertEqual(index.answer(question), answer)
            self.assertEqual(index.shelf().plain_answer(question), answer)
            for modulus in (2, 2 ** 31):
                paper = paper_of(index, question, modulus)
                self.assertEqual(judged(digest(index, modulus), question, paper), answer)
                self.assertIsNone(collision(index, modulus, paper))

    def test_deeds_on_three_copies(self):
        chance = random.Random(161)
        for _ in range(15):
            deeds = Deeds(chance)
            for _ in range(25):
                deeds.draw()
            deeds.merge_all()
            one, other, third = deeds.copies
            self.assertEqual(one.tellings(), other.tellings())
            self.assertEqual(one.tellings(), third.tellings())
            self.assertEqual(one.shelf().changes(), third.shelf().changes())
            self.assert_index_of(chance, one)

    def assert_index_of(self, chance, copy):
        changes = [telling[2] for telling in copy.tellings()]
        endings = copy.endings()
        questions = [chance.choice(QUESTIONS), made_question(chance, 6), ("all",)]
        index = Index(endings)
        for at, change in enumerate(changes):
            index.tell(*change)
            self.assertEqual(leaves_of(index), leaves_plainly(changes[:at + 1], endings))
            self.assert_answers(index, changes[:at + 1], endings, questions)
        self.assertEqual(index.shelf().changes(), copy.shelf().changes())
        few = [telling[2] for telling in compacted(copy.tellings())]
        for _ in range(3):
            self.assert_same_by(few, index, changes, endings, questions + QUESTIONS)
            # No two of them have one key and one time.
            chance.shuffle(few)

    def assert_same_by(self, few, index, changes, endings, questions):
        other = Index(endings)
        for change in few:
            other.tell(*change)
        self.assertEqual(leaves_of(other), leaves_of(index))
        self.assertEqual(digest(other, 2 ** 31), digest(index, 2 ** 31))
        for key in keys_plainly(changes):
            self.assertEqual(other.shelf().history(key), history_plainly(changes, endings, key))
        self.assert_answers(other, changes, endings, questions)

    def test_a_file_that_is_cut_is_the_shelf_of_its_whole_records(self):
        chance = random.Random(162)
        for _ in range(10):
            deeds = Deeds(chance)
            for _ in range(12):
                deeds.draw()
            deeds.merge_all()
            copy = deeds.copies[0]
            data = file_of(copy)
            number = 0
            for end in range(len(file_of(Copy(1, deeds.endings))), len(data) + 1):
                found, behind = opened(data[:end], 9)
                number = len(found.held())
                self.assertEqual(found.held(), copy.held()[:number])
                self.assertEqual(file_of(found), data[:behind])
                self.assertEqual(found.merge(copy), len(copy.held()) - number)
                self.assertEqual(found.tellings(), copy.tellings())
            self.assertEqual(number, len(copy.held()))

    def test_evidence_that_is_accepted_is_true(self):
        chance = random.Random(163)
        for _ in range(150):
            document = document_of(made_text(chance, 6) or "", ())
            question = made_question(chance, 6)
            evidence = evidence_for(document, question)
            expected = "yes" if matches_plainly(document, question) else "no"
            self.assertEqual(check_evidence(document, question, evidence), expected)
            other = evidence_for(document_of(made_text(chance, 6) or "", ()), question)
            self.assertIn(check_evidence(document, question, other), (expected, None))

    def test_simple_questions_without_a_witness_have_the_same_answers(self):
        chance = random.Random(164)
        texts = ["a", "a*", "a* a", "a (b | -b)", "a | a b", "--a", "-(-a | -a)", "b", "-@", "a -a", "@", "a | -a",
                 "b* -b | b", "b*", "-a | -b", "-(a b)", "a -b | b -a", "(a | b) -(a b)"]
        questions = [read_question(text) for text in texts]
        for one in questions:
            for other in questions:
                self.assertTrue(is_simple(one))
                witness = least_witness(one, other, 20)
                if witness is None:
                    for _ in range(20):
                        shelf = Shelf(())
                        for _ in range(6):
                            shelf.tell(chance.randrange(6), chance.choice(KEYS), made_text(chance))
                        self.assertEqual(shelf.plain_answer(one), shelf.plain_answer(other))
                else:
                    self.assertNotEqual(matches_plainly(witness, one), matches_plainly(witness, other))
                    self.assertEqual([word for word in witness if word not in candidates(one, other)], [])

    def test_a_call_that_raises_changes_nothing(self):
        chance = random.Random(165)
        holders = [Shelf(()), Index(()), Copy(1, ())]
        for _ in range(60):
            change = (chance.choice([0, 5, 9, -1, 100001, None]), chance.choice(["a", "b", "", "A", "k" + str(chance.randrange(20))]),
                      chance.choice([None, "x", "x y", "\t", 5]))
            outcomes = []
            for holder in holders:
                shelf = holder if isinstance(holder, Shelf) else holder.shelf()
                before = (shelf.changes(), shelf.known_keys())
                try:
                    holder.tell(*change)
                    outcomes.append(None)
                except ShelfError as error:
                    outcomes.append((error.__class__, vars(error)))
                    after = holder if isinstance(holder, Shelf) else holder.shelf()
                    self.assertEqual((after.changes(), after.known_keys()), before)
            # A shelf, an index and a copy refuse the same, for the same reason.
            self.assertEqual(outcomes, outcomes[:1] * 3)
        self.assertEqual(holders[0].changes(), holders[1].shelf().changes())
        self.assertEqual(holders[0].changes(), holders[2].shelf().changes())
        for key in holders[0].known_keys():
            for time in (0, 5, 9):
                expected = document_plainly(holders[0].changes(), (), key, time)
                self.assertEqual(holders[1].shelf().document(key, time), expected)
