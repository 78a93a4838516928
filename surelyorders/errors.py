"""The errors. Each keeps the very objects that it was made with as its attributes."""


class OrderError(ValueError):
    """The base of all errors but those of what is looked up and not there."""


class BadText(OrderError):
    """The line of a text is not one of a comparison's text; None if there is no text."""

    def __init__(self, line):
        self.line = line


class BadComp(OrderError):
    """A value is not a comparison; the error is what comp_error tells of it."""

    def __init__(self, error):
        self.error = error


class BadVerdict(OrderError):
    """A value is not a verdict."""

    def __init__(self, verdict):
        self.verdict = verdict


class BadDrop(OrderError):
    """A state cannot be taken away."""

    def __init__(self, state):
        self.state = state


class BadWord(OrderError):
    """A value is not a word."""

    def __init__(self, word):
        self.word = word


class BadList(OrderError):
    """A value is not a list of words."""

    def __init__(self, words):
        self.words = words


class Unlike(OrderError):
    """Two comparisons have unlike numbers of letters."""


class TooGreat(OrderError):
    """A comparison has or would have too many states."""


class Faulty(OrderError):
    """A comparison is no order; the fault is the word, pair or triple that shows it."""

    def __init__(self, fault):
        self.fault = fault


class NotSorted(OrderError):
    """A list of words is not sorted."""

    def __init__(self, words):
        self.words = words


class Busy(OrderError):
    """A watch of the bench runs, or its result is asked."""


class TooManyEdits(OrderError):
    """As many edits stand as may stand."""


class NothingToUndo(OrderError):
    """No edit stands."""


class NothingToRedo(OrderError):
    """No edit that was removed can be put back."""


class BadEdits(OrderError):
    """A value is not a list or tuple of edits, or it is too long."""


class BadEdit(OrderError):
    """The item at the index is not an edit."""

    def __init__(self, index):
        self.index = index


class Rejected(OrderError):
    """The item at the index raised an error."""

    def __init__(self, index):
        self.index = index


class NoState(LookupError):
    """There is no such state."""

    def __init__(self, state):
        self.state = state


class NoColumn(LookupError):
    """There is no such column."""

    def __init__(self, column):
        self.column = column


class NoVersion(LookupError):
    """There is no such version."""

    def __init__(self, version):
        self.version = version
