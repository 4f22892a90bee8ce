"""The errors of the package: TreeError, and all others directly under it."""


class TreeError(ValueError):
    """What every error of the package is."""


class SyntaxProblem(TreeError):
    """A text does not go on with the token at this line and column."""

    def __init__(self, line, column):
        super().__init__(f"the text does not go on at line {line}, column {column}")
        self.line = line
        self.column = column


class TooMany(TreeError):
    """There would be more than this limit."""

    def __init__(self, limit):
        super().__init__(f"more than {limit}")
        self.limit = limit


class NoSchema(TreeError):
    """What is passed is no schema."""


class NoSheet(TreeError):
    """What is passed, or what comes, is no sheet."""


class NoTree(TreeError):
    """What is passed is no tree of the kind."""


class NoForm(TreeError):
    """What is passed is no form, or no degree."""


class NoSpace(TreeError):
    """What is passed is no space."""


class NoFilter(TreeError):
    """What is passed is no filter of the schema."""


class NoModulus(TreeError):
    """What is passed is no modulus."""


class Mismatch(TreeError):
    """Two things do not go with each other."""


class NoKind(TreeError):
    """What is passed is no kind, or no tag."""


class NoNumber(TreeError):
    """What is passed is no number of the kind."""


class NoPath(TreeError):
    """What is passed is no path of the tree."""


class NoPrice(TreeError):
    """What is passed are no prices."""


class NameTaken(TreeError):
    """The name is in use."""


class NoName(TreeError):
    """What is passed is no name, or nothing has it."""


class NoMark(TreeError):
    """There is nothing at this number, or nothing to do."""


class InvalidCommand(TreeError):
    """The line is no command."""
