"""The errors that the package raises. Each has its fields as attributes, the very objects that were passed."""


class UnitError(ValueError):
    """The base of the errors, but of NoCut and NoVersion."""


class BadText(UnitError):
    """A value is not the text of a scheme, seen at a line (None for what is not a text)."""

    def __init__(self, line):
        self.line = line


class BadScheme(UnitError):
    """A value is not a scheme."""

    def __init__(self, error):
        self.error = error


class BadCuts(UnitError):
    """A value is not cuts for the units."""

    def __init__(self, error):
        self.error = error


class BadWord(UnitError):
    """A value is not a word of the kind's letters, or too long a one."""

    def __init__(self, word):
        self.word = word


class BadLimit(UnitError):
    """A value is not a limit."""

    def __init__(self, limit):
        self.limit = limit


class Overlong(UnitError):
    """What the cuts leave of a word does not keep the limit of a bench."""

    def __init__(self, word):
        self.word = word


class Busy(UnitError):
    """An edit while a watch of the bench runs, or its result is asked."""


class TooManyEdits(UnitError):
    """An edit where as many edits stand as may stand."""


class NothingToUndo(UnitError):
    """An undo where no edit stands."""


class NothingToRedo(UnitError):
    """A redo where no removed edit waits."""


class BadEdits(UnitError):
    """The edits of an attempt are not a list or tuple, or too many."""


class BadEdit(UnitError):
    """An item of an attempt is not an edit."""

    def __init__(self, index):
        self.index = index


class Rejected(UnitError):
    """An item of an attempt raised an error."""

    def __init__(self, index):
        self.index = index


class NoCut(LookupError):
    """A bench has no cut at an index."""

    def __init__(self, index):
        self.index = index


class NoVersion(LookupError):
    """A bench has no such version."""

    def __init__(self, version):
        self.version = version
