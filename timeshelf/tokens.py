"""The tokens of a text of a question."""

from timeshelf.words import LONGEST, SMALL

SIGNS = '*"<>()|-@'


def tokens(text):
    """The list of the tuples (kind, string) of the text."""
    return tokens_of(text)


# This name is for questions.py, where `tokens` is the name of a parameter.
def tokens_of(text):
    """The list of the tuples (kind, string) of the text."""
    found = []
    at = 0
    while at < len(text):
        if text[at] == " ":
            at += 1
        else:
            token, at = token_at(text, at)
            found.append(token)
    return found


def token_at(text, at):
    """The token that begins at this index, and the index behind it."""
    if text[at] in SIGNS:
        return ("sign", text[at]), at + 1
    end = end_of_run(text, at)
    run = text[at:end]
    if run == "":
        return ("bad", text[at]), at + 1
    if len(run) > LONGEST:
        return ("bad", run), end
    if text[end:end + 1] == "*":
        return ("start", run), end + 1
    return ("word", run), end


def end_of_run(text, at):
    """The index behind the small letters and digits that stand from this index on."""
    while at < len(text) and text[at] in SMALL:
        at += 1
    return at
