"""The errors that the modules of this package raise."""


class ShelfError(ValueError):
    """The base class of all of them."""


class QuestionFault(ShelfError):
    """A string is no question."""

    def __init__(self, place, word):
        self.place = place
        self.word = word


class InvalidChange(ShelfError):
    """A part of a change is not what it must be."""

    def __init__(self, word):
        self.word = word


class InvalidBytes(ShelfError):
    """Bytes are no file of a copy."""

    def __init__(self, at):
        self.at = at


class OtherShelf(ShelfError):
    """Two copies do not belong to one shelf."""


class TooMany(ShelfError):
    """There would be more of something than the limit allows."""

    def __init__(self, limit):
        self.limit = limit


class NoSuchKey(ShelfError):
    """No change has this key."""

    def __init__(self, key):
        self.key = key


class WrongPaper(ShelfError):
    """The paper of an answer is not accepted."""

    def __init__(self, at):
        self.at = at
