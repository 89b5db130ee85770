"""All errors of the package, each with its attributes."""


class TermError(ValueError):
    """A value that was passed is not what is wanted."""


class InvalidKind(TermError):
    """A kind was wanted."""

    def __init__(self, value):
        self.value = value


class InvalidNames(TermError):
    """A list of 0 to 8 kinds of open names was wanted."""

    def __init__(self, value):
        self.value = value


class InvalidProgram(TermError):
    """A program was wanted."""

    def __init__(self, value):
        self.value = value


class InvalidTerm(TermError):
    """A term was wanted."""

    def __init__(self, value):
        self.value = value


class InvalidMany(TermError):
    """A COUNT within the told bounds was wanted."""

    def __init__(self, value):
        self.value = value


class InvalidPosition(TermError):
    """A position of the term or program was wanted."""

    def __init__(self, value):
        self.value = value


class BadEntry(TermError):
    """The entry at this position is not right."""

    def __init__(self, position):
        self.position = position


class BadKind(TermError):
    """The node that begins at this spot does not fit."""

    def __init__(self, spot):
        self.spot = spot


class BadLine(TermError):
    """This line is wrong."""

    def __init__(self, line):
        self.line = line


class BadText(TermError):
    """No right text goes on so at this spot."""

    def __init__(self, spot):
        self.spot = spot


class InvalidArguments(TermError):
    """A list of fitting arguments was wanted."""

    def __init__(self, value):
        self.value = value


class InvalidCaller(TermError):
    """A fitting caller was wanted."""

    def __init__(self, value):
        self.value = value


class InvalidClaim(TermError):
    """A claim was wanted."""

    def __init__(self, value):
        self.value = value


class InvalidCode(TermError):
    """A code was wanted."""

    def __init__(self, value):
        self.value = value


class InvalidCommand(TermError):
    """A command was wanted."""

    def __init__(self, value):
        self.value = value


class InvalidLetter(TermError):
    """A letter, an INTEGER from 0 to 5, was wanted."""

    def __init__(self, value):
        self.value = value


class InvalidLines(TermError):
    """A list of deeds was wanted."""

    def __init__(self, position):
        self.position = position


class InvalidOutside(TermError):
    """A list of 0 to 8 unlike names outside was wanted."""

    def __init__(self, value):
        self.value = value


class InvalidPaper(TermError):
    """A paper of the claim or of its contrary was wanted."""

    def __init__(self, value):
        self.value = value


class InvalidPlace(TermError):
    """A place in a row was wanted."""

    def __init__(self, value):
        self.value = value


class InvalidPlaces(TermError):
    """A list of rising places of arguments was wanted."""

    def __init__(self, value):
        self.value = value


class InvalidRule(TermError):
    """The word of a rule was wanted."""

    def __init__(self, value):
        self.value = value


class InvalidSort(TermError):
    """The word of a sort was wanted."""

    def __init__(self, value):
        self.value = value


class InvalidText(TermError):
    """A string was wanted."""

    def __init__(self, value):
        self.value = value


class InvalidTiny(TermError):
    """A tiny program was wanted."""

    def __init__(self, value):
        self.value = value


class InvalidValue(TermError):
    """A value of the sort was wanted."""

    def __init__(self, value):
        self.value = value


class InvalidWorth(TermError):
    """A told worth of the kind was wanted."""

    def __init__(self, value):
        self.value = value


class MissingError(LookupError):
    """Nothing is there under what was told."""


class NothingNamed(MissingError):
    """Nothing of the wanted sort is kept under this name."""

    def __init__(self, value):
        self.value = value


class UnknownLabel(MissingError):
    """No claim is noted under this label."""

    def __init__(self, value):
        self.value = value


class UnknownName(MissingError):
    """The name at this spot stands for nothing."""

    def __init__(self, spot):
        self.spot = spot


class StateError(RuntimeError):
    """What was passed is right, but it cannot be done with it."""


class CommandFailed(StateError):
    """The command at this position failed."""

    def __init__(self, position):
        self.position = position


class LabelTaken(StateError):
    """A claim is noted under this label already."""

    def __init__(self, label):
        self.label = label


class NameTaken(StateError):
    """Something is kept under this name already."""

    def __init__(self, name):
        self.name = name


class NoKind(StateError):
    """The node at this position does not fit."""

    def __init__(self, position):
        self.position = position


class NoStep(StateError):
    """No step can be made so."""


class NotData(StateError):
    """The kind is no data kind."""


class NotDone(StateError):
    """The run has not come to its worth."""


class NotShown(StateError):
    """The kind is no shown kind."""


class NothingToRedo(StateError):
    """No deed can be done again."""


class NothingToUndo(StateError):
    """No deed can be taken back."""


class OpenName(StateError):
    """An open name has no name outside."""


class UnlikeKinds(StateError):
    """The kinds do not go together."""


class LimitError(ArithmeticError):
    """A limit stops it."""


class TooMany(LimitError):
    """More of this than the limit."""

    def __init__(self, what, limit):
        self.what = what
        self.limit = limit
