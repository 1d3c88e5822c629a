"""The errors of the program."""


class OwnerError(ValueError):
    """The base class of all errors of the program; called is the name of the class of each below it."""


class TextError(OwnerError):
    """A text is not one of a program, as its row and column tell."""

    def __init__(self, row, column):
        OwnerError.__init__(self, f"row {row}, column {column}")
        self.called = self.__class__.__name__
        self.row = row
        self.column = column


class BadCharacter(TextError):
    """A character begins no token."""


class BadNumber(TextError):
    """What begins with a digit is not a number."""


class Unexpected(TextError):
    """The grammar does not allow a token at its place."""


class ProgramError(OwnerError):
    """A program has a word that does not fit."""

    def __init__(self, word):
        OwnerError.__init__(self, f"{word}")
        self.called = self.__class__.__name__
        self.word = word


class DoubleName(ProgramError):
    """A name is declared twice."""


class UnknownName(ProgramError):
    """A name is not declared."""


class WrongKind(ProgramError):
    """Something has another kind than its place needs."""


class WrongCount(ProgramError):
    """There are more or fewer than there must be."""


class Endless(ProgramError):
    """A record or variant holds itself."""


class NotWhole(ProgramError):
    """A part of a variable is used where only the whole one can be."""


class Refused(OwnerError):
    """The judge does not take a statement or a way of a function."""

    def __init__(self, function, block, index, word):
        OwnerError.__init__(self, f"function {function}, block {block}, index {index}: {word}")
        self.called = self.__class__.__name__
        self.function = function
        self.block = block
        self.index = index
        self.word = word
