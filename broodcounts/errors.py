"""The errors that the package raises."""


class BroodError(ValueError):
    """An error of the package."""


class ParseError(BroodError):
    """A text does not tell what it should."""

    def __init__(self, line):
        super().__init__(f"line {line} cannot be read")
        self.line = line


class InvalidAsk(BroodError):
    """An argument is no ask."""


class InvalidBook(BroodError):
    """An argument is no book."""


class InvalidBrood(BroodError):
    """An argument is no brood of a book."""


class InvalidFrame(BroodError):
    """An argument is no frame."""


class InvalidKind(BroodError):
    """An argument is no kind."""


class InvalidLine(BroodError):
    """An argument is no line of the shell."""


class InvalidLot(BroodError):
    """An argument is no lot."""


class InvalidLots(BroodError):
    """An argument is no list of lots."""


class InvalidMatch(BroodError):
    """The signs of two books are not the same."""


class InvalidName(BroodError):
    """A word is no name."""


class InvalidNet(BroodError):
    """An argument is no net."""


class InvalidNumber(BroodError):
    """An argument is no such integer."""


class InvalidPath(BroodError):
    """No tree stands at a path."""


class InvalidRule(BroodError):
    """An argument is no rule."""


class InvalidRules(BroodError):
    """An argument is no list of rules, or there are too many."""


class InvalidSigns(BroodError):
    """An argument is no list of signs."""


class InvalidTree(BroodError):
    """An argument is no tree."""


class InvalidWish(BroodError):
    """An argument is no wish."""


class NothingOpen(BroodError):
    """No tree is open."""


class NothingToUndo(BroodError):
    """There are fewer calls than are to be undone."""


class TooMany(BroodError):
    """There are more than may be returned."""


class UnknownName(BroodError):
    """No book has this name."""


class UnknownSign(BroodError):
    """An argument is none of the signs."""
