"""The errors that the program raises."""


class CoverError(ValueError):
    """The base class of all errors that the program raises."""


class WrongMove(CoverError):
    """A move is not allowed on the word."""


class NotRelated(CoverError):
    """No path leads from one word to the other."""


class Related(CoverError):
    """No note parts the words, since a path joins them."""


class NoCorner(CoverError):
    """The cell is not a corner of the table."""


class WrongShape(CoverError):
    """A table and a record have different shapes."""


class OutOfRange(CoverError):
    """A number is outside of the bounds that are set for it."""


class EmptyWindow(CoverError):
    """The window has no letter to pop."""


class InvalidText(CoverError):
    """A text is not written as the document tells; `position` is the index of its first wrong character."""

    def __init__(self, position):
        super().__init__(f"the text is invalid at position {position}")
        self.position = position
