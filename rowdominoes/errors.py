"""The exceptions of the package."""


class StoneError(ValueError):
    """The base class of all exceptions of the package."""


class InvalidRow(StoneError):
    """The stone at an index cannot stand there in a row."""

    def __init__(self, index):
        super().__init__(f"no stone for this place of a row: argument {index}")
        self.index = index


class UnknownStone(StoneError):
    """A row has no such stone."""


class InvalidSide(StoneError):
    """A side is neither left nor right."""


class InvalidNumber(StoneError):
    """A value is no number, or a number out of its limits."""


class AlreadyFallen(StoneError):
    """The push at an index is one of a stone that has fallen already."""

    def __init__(self, index):
        super().__init__(f"the stone has fallen already: push {index}")
        self.index = index


class OtherRow(StoneError):
    """Two rows do not have equally many stones."""


class AlreadyOpen(StoneError):
    """A block of a live row is entered within another one."""


class NotStanding(StoneError):
    """A stone does not stand."""

    def __init__(self, stone):
        super().__init__(f"the stone does not stand: {stone}")
        self.stone = stone


class NotLying(StoneError):
    """A stone does not lie on the ground."""

    def __init__(self, stone):
        super().__init__(f"the stone does not lie on the ground: {stone}")
        self.stone = stone


class InvalidOperation(StoneError):
    """The argument at an index is no operation."""

    def __init__(self, index):
        super().__init__(f"no operation: argument {index}")
        self.index = index


class Contradiction(StoneError):
    """An observation would leave nothing possible."""


class NotationError(StoneError):
    """A word of a line of a text is wrong, missing or superfluous."""

    def __init__(self, line, word):
        super().__init__(f"wrong notation: line {line}, word {word}")
        self.line = line
        self.word = word


class InvalidCount(StoneError):
    """An argument is no list of the values of bytes."""


class DecodeError(StoneError):
    """The byte at an offset is invalid."""

    def __init__(self, offset):
        super().__init__(f"invalid byte: offset {offset}")
        self.offset = offset
