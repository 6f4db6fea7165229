"""The errors of this package."""


class NearError(ValueError):
    """The base class of all errors of this package."""


class InvalidTree(NearError):
    """A value is no tree, or a tree would be too great or too deep."""


class InvalidProgram(NearError):
    """A tree has free names, or is no program of the kind that is asked for."""


class InvalidValue(NearError):
    """A value is no tree that is a program and a value."""


class InvalidPath(NearError):
    """A value is no path of a tree."""


class InvalidName(NearError):
    """A value is no name, or no tag."""


class InvalidNumber(NearError):
    """A value is no integer between the bounds."""


class InvalidBook(NearError):
    """A value is no book."""


class InvalidKinding(NearError):
    """A value is no kinding by a book."""


class InvalidPaths(NearError):
    """A value is no ascending tuple of paths of a tree."""


class InvalidRows(NearError):
    """A value is no rows."""


class InvalidStock(NearError):
    """A value is no stock."""


class InvalidFlat(NearError):
    """A value is no flat program with plain names."""


class InvalidCarried(NearError):
    """A value is no carried form."""


class InvalidEngine(NearError):
    """A value is no engine."""


class InvalidCode(NearError):
    """A value is no code."""


class InvalidWay(NearError):
    """A value is no way of going."""


class InvalidAnswers(NearError):
    """A value is no tuple of answers from outside."""


class InvalidHeap(NearError):
    """A value is no heap."""


class InvalidRoots(NearError):
    """A value is no roots of a heap."""


class InvalidAddress(NearError):
    """A value is no address of a cell."""


class InvalidClearing(NearError):
    """A value is no clearing."""


class InvalidBettering(NearError):
    """A value is no bettering that can be done."""


class InvalidPaper(NearError):
    """A value is no paper."""


class InvalidPattern(NearError):
    """A value is no pattern."""


class InvalidState(NearError):
    """A value is no state."""


class InvalidMove(NearError):
    """A value is no move."""


class InvalidPlay(NearError):
    """A value is no play."""


class InvalidPicture(NearError):
    """A value is no picture of a state."""


class CannotMove(NearError):
    """A move can't be done in a state."""


class NothingToUndo(NearError):
    """No call is left that can be taken back."""


class NothingToRedo(NearError):
    """No call is left that can be done again."""


class InvalidText(NearError):
    """A text is not read on from an index."""

    def __init__(self, at):
        super().__init__(f"the text can't be read from the index {at} on")
        self.at = at


class NotLast(NearError):
    """The row of a deed does not go on last."""

    def __init__(self, deed):
        super().__init__(f"the row of the deed {deed} does not go on last")
        self.deed = deed


class TooMany(NearError):
    """There are more than a limit lets."""

    def __init__(self, limit):
        super().__init__(f"there are more than {limit}")
        self.limit = limit
