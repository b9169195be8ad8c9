"""How a question is written."""


def write_question(question):
    """The string of a question."""
    kind = question[0]
    if kind == "row":
        return row_text(question[1], question[2])
    if kind == "all":
        return "@"
    if kind == "not":
        return "-" + part_text(question[1], ("and", "or"))
    if kind == "and":
        return " ".join([part_text(part, ("and", "or")) for part in question[1]])
    return " | ".join([part_text(part, ("or",)) for part in question[1]])


def part_text(question, bracketed):
    """The string of a part, in brackets if it is of one of these kinds."""
    text = write_question(question)
    if question[0] in bracketed:
        return "(" + text + ")"
    return text


def row_text(patterns, gap):
    """The string of a row."""
    told = " ".join([pattern_text(pattern) for pattern in patterns])
    if gap > 0:
        return f"<{gap} {told}>"
    if len(patterns) == 1:
        return told
    return '"' + told + '"'


def pattern_text(pattern):
    """The string of a pattern."""
    kind, word = pattern
    if kind == "start":
        return word + "*"
    return word
