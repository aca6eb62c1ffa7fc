"""The errors of the package: one class for each kind of failure."""


class RestError(ValueError):
    """Any error of the package."""


class BadBook(RestError):
    """An object is no book."""


class BadState(RestError):
    """An object is no state of the book."""


class BadTree(RestError):
    """An object is no tree of the book."""


class NoNode(RestError):
    """An object is not the number of a node."""


class BadStep(RestError):
    """The entry with the index `place` is no step that can be taken then."""

    def __init__(self, place):
        RestError.__init__(self, f"the step with the index {place} cannot be taken")
        self.place = place


class NoEnd(RestError):
    """The book has a ring, so that some run has no end."""


class BadWay(RestError):
    """The entry with the index `place` is no number of a rule that can fire then."""

    def __init__(self, place):
        RestError.__init__(self, f"the rule with the index {place} cannot fire")
        self.place = place


class NoOneRest(RestError):
    """Some tree of the book has two rests."""


class BadReader(RestError):
    """An object is no reader."""


class UnlikeBooks(RestError):
    """Two books have unlike numbers of states."""


class TooMany(RestError):
    """There are more rules or nodes than the call allows."""


class BadLine(RestError):
    """An object is no long line of the book."""


class BadOrder(RestError):
    """An object is no order of the nodes."""


class BadRule(RestError):
    """An object is no rule that can be put in, left out or asked for."""


class NothingToUndo(RestError):
    """There is no change that can be taken back."""


class BadText(RestError):
    """The line with the index `line` is not of the form, or writes nothing valid."""

    def __init__(self, line):
        RestError.__init__(self, f"the line with the index {line} cannot be read")
        self.line = line


class BadCommand(RestError):
    """An object is no row that the desk knows."""
