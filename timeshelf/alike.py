"""Simple questions, and the documents that tell two of them apart."""

from timeshelf.errors import TooMany
from timeshelf.matching import fits
from timeshelf.questions import patterns_of, questions_in
from timeshelf.words import LONGEST, SMALL


def is_simple(question):
    """True if each row of the question has one pattern."""
    return all(len(part[1]) == 1 for part in questions_in(question) if part[0] == "row")


def candidates(one, other):
    """The sorted list of the words of which a witness against two simple questions can be made."""
    words = [word for _, word in patterns_of(difference(one, other))]
    found = list(words)
    # What is found behind the empty word is the first word that has to do with no pattern.
    for word in [""] + words:
        if len(word) < LONGEST:
            found.extend(free_word(word, words))
    return sorted(set(found))


def difference(one, other):
    """The question that the witnesses against two questions match."""
    return ("or", (("and", (one, ("not", other))), ("and", (("not", one), other))))


def free_word(word, words):
    """A list with the first word one longer than this one that begins none of the words, if there is one."""
    for letter in SMALL:
        longer = word + letter
        if not any(told.startswith(longer) for told in words):
            return [longer]
    return []


def least_witness(one, other, most):
    """The least witness against two simple questions; None if they are alike."""
    words = candidates(one, other)
    if len(words) > most:
        raise TooMany(most)
    return Search(difference(one, other), words).least()


class Search:
    """A search for the least document of some words, rising and different, that matches a simple question."""

    def __init__(self, question, words):
        self.question = question
        self.allowed = words
        self.bits = {pattern: 1 << index for index, pattern in enumerate(patterns_of(question))}
        self.told = [self.bits_told(word) for word in words]
        self.seen = {0: True}

    def bits_told(self, word):
        """The bits of the patterns that the word fits: all that counts of it."""
        return bits_together([bit for pattern, bit in self.bits.items() if fits(word, pattern)])

    def least(self):
        """The document with the fewest words, the first of several in the order of tuples; None if there is none."""
        begun = [((), 0, 0)]
        while len(begun) > 0:
            for document, _, bits in begun:
                if self.answer_within(self.question, bits, bits):
                    return document
            begun = [longer for start in begun for longer in self.longer_than(start)]
        return None

    def longer_than(self, start):
        """The documents with one word more behind this start that may begin the least one."""
        document, at, bits = start
        found = []
        for index in range(at, len(self.allowed)):
            more = bits | self.told[index]
            # A document that was met earlier and fits the same patterns could take the place of
            # this one in each longer one, and make it shorter, or earlier in the order.
            if more not in self.seen:
                self.seen[more] = True
                if self.answer_within(self.question, more, bits_together([more] + self.told[index:])) is not False:
                    found.append((document + (self.allowed[index],), index + 1, more))
        return found

    def answer_within(self, question, sure, possible):
        """Whether documents match that fit the patterns of the bits `sure`, and perhaps others of
        the bits `possible`: True if each of them does, False if none does, None if it is open.
        """
        kind = question[0]
        if kind == "row":
            bit = self.bits[question[1][0]]
            if (bit & sure) > 0:
                return True
            return None if (bit & possible) > 0 else False
        if kind == "all":
            return True
        if kind == "not":
            answer = self.answer_within(question[1], sure, possible)
            return None if answer is None else not answer
        deciding = kind == "or"
        answers = [self.answer_within(part, sure, possible) for part in question[1]]
        if deciding in answers:
            return deciding
        return None if None in answers else not deciding


def bits_together(numbers):
    """The bits of all the numbers."""
    together = 0
    for number in numbers:
        together = together | number
    return together
