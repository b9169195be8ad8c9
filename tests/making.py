"""Questions and documents that are made at random, and some that are not, for the tests."""

from timeshelf.merging import Copy
from timeshelf.questions import read_question

WORDS = ["a", "b", "ab", "ba", "abc", "0", "7", "12", "abcdefghij12"]

# Each kind of question, over the words above.
QUESTIONS = [read_question(text) for text in (
    "@", "-@", "a", "b*", "-a", "--ab", '"a b"', "<2 a b*>", "a b", "a -b", "a | 7", "a | -b", "-(a | b)", "-(a -b) 0")]

# The changes of a small index; its leaves are 3 places, and behind them the postings of four words.
SMALL = [(5, "a", "mill old mills"), (9, "a", "old"), (3, "b", "mill weir")]
SMALL_LEAVES = [
    ("a", 5, 9), ("a", 9, None), ("b", 3, None),
    ("mill", "a", 5, 9, (0,)), ("mill", "b", 3, None, (0,)), ("mills", "a", 5, 9, (2,)),
    ("old", "a", 5, 9, (1,)), ("old", "a", 9, None, (0,)), ("weir", "b", 3, None, (1,))]


def made_pattern(chance):
    return (chance.choice(["word", "start"]), chance.choice(WORDS))


def made_row(chance, most=6):
    patterns = tuple(made_pattern(chance) for _ in range(chance.randrange(1, most + 1)))
    return ("row", patterns, chance.choice([0, 0, 1, 2, 9]))


def made_question(chance, left):
    """A question of a size of at most `left`."""
    kinds = ["row", "row", "all"] + ["not"] * (left > 1) + ["and", "or"] * 2 * (left > 2)
    kind = chance.choice(kinds)
    if kind == "row":
        return made_row(chance)
    if kind == "all":
        return ("all",)
    if kind == "not":
        return ("not", made_question(chance, left - 1))
    parts = []
    left -= 1
    while left > 0 and (len(parts) < 2 or chance.random() < 0.5):
        part = made_question(chance, left - (len(parts) == 0))
        parts.append(part)
        left -= size_plainly(part)
    return (kind, tuple(parts))


def size_plainly(question):
    if question[0] in ("row", "all"):
        return 1
    if question[0] == "not":
        return 1 + size_plainly(question[1])
    return 1 + sum(size_plainly(part) for part in question[1])


def depth_of_brackets(text):
    """How many brackets are open at once in a text, at the most."""
    depth = 0
    most = 0
    for character in text:
        depth += (character == "(") - (character == ")")
        most = max(most, depth)
    return most


def made_text(chance, most=6):
    """A text, or None."""
    if chance.random() < 0.2:
        return None
    return chance.choice([" ", ", ", "\n"]).join(chance.choice(WORDS) for _ in range(chance.randrange(most + 1)))


def made_changes(chance, many, keys=("a", "b", "10", "9"), last=12):
    """A list of changes of few keys and times, so that many of them meet."""
    return [(chance.randrange(last), chance.choice(keys), made_text(chance)) for _ in range(many)]


def after_telling(holder, changes):
    """The shelf, the index or the copy, when it has been told these changes."""
    for time, key, text in changes:
        holder.tell(time, key, text)
    return holder


def copy_of(source, changes, endings=()):
    """A copy that was told these changes."""
    return after_telling(Copy(source, endings), changes)
