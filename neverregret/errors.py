"""All errors that the package raises by itself."""


class DeskError(ValueError):
    """The common base of all errors of the package."""


class InvalidTable(DeskError):
    """Kinds (-2), types (-1) or the item of a type are no right part of a table."""

    def __init__(self, at):
        self.at = at


class InvalidText(DeskError):
    """A text is refused at this line and place."""

    def __init__(self, line, at):
        self.line = line
        self.at = at


class InvalidStock(DeskError):
    """A value is no stock: as a whole (-1), or for its item at this index."""

    def __init__(self, at):
        self.at = at


class InvalidBounds(DeskError):
    """A value is no bounds: as a whole (-1), or for its item at this index."""

    def __init__(self, at):
        self.at = at


class InvalidRow(DeskError):
    """A value is no row: as a whole (-1), or for its item at this index."""

    def __init__(self, at):
        self.at = at


class InvalidPaper(DeskError):
    """A paper is not right; `at` tells what is wrong with it."""

    def __init__(self, at):
        self.at = at


class InvalidNumber(DeskError):
    """Numbers are none; `word` tells which."""

    def __init__(self, word):
        self.word = word


class Refused(DeskError):
    """Something cannot be done; `word` tells for what reason."""

    def __init__(self, word):
        self.word = word


class Broken(DeskError):
    """What lies on a disk cannot be understood; `word` tells as what."""

    def __init__(self, word):
        self.word = word
