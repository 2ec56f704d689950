"""The exception classes of the package."""


class MachineError(ValueError):
    """The base of all errors of the package; it keeps the very object that it was made of."""

    def __init__(self, value):
        self.value = value


class InvalidPlan(MachineError):
    """An object is not a plan."""


class InvalidBook(MachineError):
    """An object is not a book."""


class InvalidMemory(MachineError):
    """An object is not a memory, or not one with as many cells as the plan has."""


class InvalidNumber(MachineError):
    """An integer is outside of its range."""


class InvalidText(MachineError):
    """A source is not valid at the line with this index, or an object is not a string."""


class NotLet(MachineError):
    """An object is not a step or a deed that is let now."""


class InvalidEnd(MachineError):
    """An object is not an end with these numbers of cores and cells."""


class NotShort(MachineError):
    """A book or a program is not short."""


class InvalidChoice(MachineError):
    """An object is not a choice."""


class NotFree(MachineError):
    """A choice has a ring."""


class InvalidRun(MachineError):
    """An object is not a run."""


class InvalidPaper(MachineError):
    """An object does not have the form of a paper."""


class InvalidPlaces(MachineError):
    """An object is not places of a book."""


class InvalidMachine(MachineError):
    """An object is not the name of a machine."""


class InvalidProgram(MachineError):
    """An object is not a program."""


class InvalidPaths(MachineError):
    """An object is not paths of a program."""


class InvalidBehaviour(MachineError):
    """An object is not a behaviour of the required kind."""


class InvalidCertificate(MachineError):
    """An object does not have the form of a certificate."""


class TooLong(MachineError):
    """A hand needs more rows than a core has."""


class InvalidKind(MachineError):
    """An object is not the kind of a shared object."""


class InvalidHistory(MachineError):
    """An object is not a history of its kind."""


class InvalidLinearization(MachineError):
    """An object is not a linearization of a history."""


class NotDistinct(MachineError):
    """A history is not distinct."""


class NotPlainCell(MachineError):
    """A cell is not used in the simple way that a history requires."""


class InvalidMode(MachineError):
    """An object is not a mode, or not a name with a mode."""


class InvalidWords(MachineError):
    """An object is not words of the required number."""


class InvalidRewrite(MachineError):
    """An object is not a rewrite of a program."""


class TooMany(MachineError):
    """More programs are found than are allowed."""


class Nothing(MachineError):
    """There is no deed to take back."""


class Unreadable(MachineError):
    """An object is not the text of a value."""


class InvalidCommand(MachineError):
    """An object is not a command."""


class NotReady(MachineError):
    """Something that is needed first is not there yet."""
