"""The errors that the program raises."""


class StairError(ValueError):
    """The base class of all errors of the program."""


class BadMachine(StairError):
    """A machine or a stair cannot be made of this."""


class BadMark(StairError):
    """A word contains something that is not a mark."""


class BadText(StairError):
    """A text is not that of a machine; `line` is the first wrong line, counted from 1."""

    def __init__(self, line):
        super().__init__(f"no text of a machine goes on so in line {line}")
        self.line = line


class BadCells(StairError):
    """A line of cells cannot be made of this."""


class BadTiles(StairError):
    """A set of tiles cannot be made of this, or a floor of tiles means nothing."""


class TooLarge(StairError):
    """A floor, a height, or the number of rows or floors is above its bound."""


class ManyRows(StairError):
    """Several rows of tiles stand on a floor where one is needed."""


class BadPlace(StairError):
    """A rule cannot be applied at this place."""


class TooMany(StairError):
    """Rules lead to too many strings."""


class BadChain(StairError):
    """Stairs do not make a chain; `index` is that of the first wrong name."""

    def __init__(self, index):
        super().__init__(f"the chain cannot go on with the name at index {index}")
        self.index = index
