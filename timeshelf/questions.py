"""Questions: trees, and how they are read from texts."""

from timeshelf.errors import QuestionFault
from timeshelf.tokens import tokens_of

DIGITS = "0123456789"
MOST_PATTERNS = 6
MOST_BRACKETS = 6
LARGEST_SIZE = 24


def read_question(text):
    """The question that the text is; raises QuestionFault if it is none."""
    tokens = tokens_of(text)
    question = whole_question(tokens)
    if size(question) > LARGEST_SIZE:
        raise QuestionFault(len(tokens), "size")
    return question


def begins(tokens):
    """True if these tokens begin a question, or are one."""
    try:
        whole_question(tokens)
    except QuestionFault as fault:
        return fault.word == "end"
    return True


def size(question):
    """The number of questions in the question, itself counted."""
    return len(questions_in(question))


def patterns_of(question):
    """The sorted list of the patterns of the question, each once."""
    rows = [part for part in questions_in(question) if part[0] == "row"]
    return sorted({pattern for row in rows for pattern in row[1]})


def questions_in(question):
    """The list of all questions in the question, itself first."""
    # A list of those that wait, and no recursion: thousands of "-" may stand in a row.
    found = []
    waiting = [question]
    while waiting:
        part = waiting.pop()
        found.append(part)
        waiting.extend(parts_of(part))
    return found


def parts_of(question):
    """The tuple of the questions of which the question is directly made."""
    if question[0] == "not":
        return (question[1],)
    if question[0] in ("and", "or"):
        return question[1]
    return ()


def whole_question(tokens):
    """The question, of any size, that all the tokens are."""
    question, at = question_at(tokens, 0, 0)
    if at < len(tokens):
        raise QuestionFault(at, "unexpected")
    return question


# Each function below reads from the index `at` on, within `depth` open brackets, and returns
# what it has read and the index behind it. None looks past a token that cannot stand where it
# stands; so the first of these is the place of the fault.


def question_at(tokens, at, depth):
    """A question: alternatives between the signs "|"."""
    alternative, at = alternative_at(tokens, at, depth)
    alternatives = [alternative]
    while is_sign(tokens, at, "|"):
        alternative, at = alternative_at(tokens, at + 1, depth)
        alternatives.append(alternative)
    return made_of("or", alternatives), at


def alternative_at(tokens, at, depth):
    """An alternative: clauses one behind the other."""
    clause, at = clause_at(tokens, at, depth)
    clauses = [clause]
    while begins_clause(tokens, at):
        clause, at = clause_at(tokens, at, depth)
        clauses.append(clause)
    return made_of("and", clauses), at


def made_of(kind, questions):
    """The question of this kind that has these parts; one alone is itself."""
    if len(questions) == 1:
        return questions[0]
    return (kind, tuple(questions))


def begins_clause(tokens, at):
    """True if the token at this index can be the first one of a clause."""
    return is_pattern(tokens, at) or is_sign(tokens, at, '-@"<(')


def clause_at(tokens, at, depth):
    """A clause, with each "-" that stands before it."""
    first = at
    while is_sign(tokens, at, "-"):
        at += 1
    denials = at - first
    question, at = plain_clause_at(tokens, at, depth)
    for _ in range(denials):
        question = ("not", question)
    return question, at


def plain_clause_at(tokens, at, depth):
    """A clause that does not begin with "-"."""
    if is_pattern(tokens, at):
        return ("row", (tokens[at],), 0), at + 1
    if is_sign(tokens, at, "@"):
        return ("all",), at + 1
    if is_sign(tokens, at, '"'):
        return row_at(tokens, at + 1, 0, '"')
    if is_sign(tokens, at, "<"):
        return row_at(tokens, at + 2, gap_at(tokens, at + 1), ">")
    if is_sign(tokens, at, "(") and depth < MOST_BRACKETS:
        return bracket_at(tokens, at + 1, depth + 1)
    raise QuestionFault(at, fault_at(tokens, at))


def gap_at(tokens, at):
    """The gap that the token at this index tells."""
    if is_digit(tokens, at):
        return int(tokens[at][1])
    raise QuestionFault(at, fault_at(tokens, at))


def row_at(tokens, at, gap, closing):
    """A row with this gap: patterns, and the sign that closes them."""
    first = at
    while is_pattern(tokens, at) and at - first < MOST_PATTERNS:
        at += 1
    if at == first or not is_sign(tokens, at, closing):
        raise QuestionFault(at, fault_at(tokens, at))
    return ("row", tuple(tokens[first:at]), gap), at + 1


def bracket_at(tokens, at, depth):
    """A question, and the bracket that closes it."""
    question, at = question_at(tokens, at, depth)
    if not is_sign(tokens, at, ")"):
        raise QuestionFault(at, fault_at(tokens, at))
    return question, at + 1


def fault_at(tokens, at):
    """The word of the fault of tokens that do not go on as they must at this index."""
    if at < len(tokens):
        return "unexpected"
    return "end"


def is_sign(tokens, at, signs):
    """True if one of these signs is at this index."""
    return at < len(tokens) and tokens[at][0] == "sign" and tokens[at][1] in signs


def is_pattern(tokens, at):
    """True if a pattern is at this index: its token has the same form."""
    return at < len(tokens) and tokens[at][0] in ("word", "start")


def is_digit(tokens, at):
    """True if a word of one digit is at this index."""
    if at >= len(tokens) or tokens[at][0] != "word":
        return False
    return len(tokens[at][1]) == 1 and tokens[at][1] in DIGITS
