"""The errors of the package.

Each error keeps its class name as `tag`, so that callers can report it without looking at the class.
"""


class EarlyError(ValueError):
    """The base class of the errors about values."""

    def __init__(self):
        self.tag = "EarlyError"


class InvalidBase(EarlyError):
    """The base of a digit set is not from 2 to 10."""

    def __init__(self):
        self.tag = "InvalidBase"


class InvalidDigits(EarlyError):
    """The digits are not those of a digit set."""

    def __init__(self):
        self.tag = "InvalidDigits"


class InvalidRow(EarlyError):
    """Some digits are not a row of a digit set."""

    def __init__(self):
        self.tag = "InvalidRow"


class InvalidPoints(EarlyError):
    """The points are not those of a line function."""

    def __init__(self):
        self.tag = "InvalidPoints"


class InvalidText(EarlyError):
    """A text is not that of an expression, from a position on."""

    def __init__(self, position):
        self.tag = "InvalidText"
        self.position = position


class InvalidDelay(EarlyError):
    """A delay is too small or too great."""

    def __init__(self):
        self.tag = "InvalidDelay"


class InvalidMachine(EarlyError):
    """A state of a machine has a wrong form; -1 stands for the machine as a whole."""

    def __init__(self, state):
        self.tag = "InvalidMachine"
        self.state = state


class Incompatible(EarlyError):
    """Two values do not fit each other."""

    def __init__(self):
        self.tag = "Incompatible"


class OutOfRange(EarlyError):
    """A number lies outside of what is allowed."""

    def __init__(self):
        self.tag = "OutOfRange"


class NotRedundant(EarlyError):
    """A writing set is not redundant."""

    def __init__(self):
        self.tag = "NotRedundant"


class LimitReached(EarlyError):
    """Something would become greater than a limit."""

    def __init__(self, limit):
        self.tag = "LimitReached"
        self.limit = limit


class CircularName(EarlyError):
    """A name depends on itself."""

    def __init__(self, name):
        self.tag = "CircularName"
        self.name = name


class InvalidName(EarlyError):
    """A string is not a name."""

    def __init__(self, name):
        self.tag = "InvalidName"
        self.name = name


class DuplicateName(EarlyError):
    """A name is defined already."""

    def __init__(self, name):
        self.tag = "DuplicateName"
        self.name = name


class NameInUse(EarlyError):
    """A name is needed by another one, the user."""

    def __init__(self, user):
        self.tag = "NameInUse"
        self.user = user


class WrongKind(EarlyError):
    """A name stands for another kind of item."""

    def __init__(self, name):
        self.tag = "WrongKind"
        self.name = name


class InvalidItem(EarlyError):
    """A tuple is not an item of a workshop."""

    def __init__(self):
        self.tag = "InvalidItem"


class InvalidCommand(EarlyError):
    """A tuple in a batch is not a command."""

    def __init__(self, position):
        self.tag = "InvalidCommand"
        self.position = position


class InvalidDocument(EarlyError):
    """A line of a document is wrong."""

    def __init__(self, line):
        self.tag = "InvalidDocument"
        self.line = line


class UndefinedName(LookupError):
    """A name is not defined."""

    def __init__(self, name):
        self.tag = "UndefinedName"
        self.name = name


class EmptyHistory(IndexError):
    """There is no step to take back or to apply again."""

    def __init__(self):
        self.tag = "EmptyHistory"
