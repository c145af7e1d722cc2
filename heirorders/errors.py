"""The errors that this package raises. Each keeps its arguments as attributes."""


class HeirError(ValueError):
    """The base class of all errors but NoName."""


class InvalidWill(HeirError):
    """A value that does not make a will."""

    def __init__(self, word):
        self.word = word


class InvalidFamily(HeirError):
    """Values that do not make a family; the word tells which of them."""

    def __init__(self, word):
        self.word = word


class InvalidText(HeirError):
    """A text without the required form; at is the number of its first wrong part or line."""

    def __init__(self, at):
        self.at = at


class InvalidOrder(HeirError):
    """A value that is no order of a family; at is the first place that shows it."""

    def __init__(self, at):
        self.at = at


class InvalidCase(HeirError):
    """A value that is no case of a family."""


class InvalidCommand(HeirError):
    """A command that a desk cannot execute."""


class Mismatch(HeirError):
    """Two families without the same living people or without the same dead people."""


class Refused(HeirError):
    """A change that a live family cannot make; at tells where."""

    def __init__(self, at):
        self.at = at


class NoName(KeyError):
    """A value that is not one of the names that are asked for."""

    def __init__(self, name):
        self.name = name
