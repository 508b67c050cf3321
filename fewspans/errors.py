"""The errors of the package, one class for each kind of failure."""

# No class passes a message to its base, so Python shows an error as the document writes it: BadText(1).


class SpanError(ValueError):
    """The base of all errors except those of a failed look-up."""


class TooWide(SpanError):
    """There are more blocks than the bound allows."""

    def __init__(self, bound):
        self.bound = bound


class NotGenerated(SpanError):
    """The pieces do not generate all targets: none of them serves the demand."""

    def __init__(self, demand):
        self.demand = demand


class OutOfRange(SpanError):
    """A result would not be a position."""


class TooMany(SpanError):
    """There would be more targets or pieces than the bound allows."""

    def __init__(self, bound):
        self.bound = bound


class BadTargets(SpanError):
    """A value is not targets, with the result of targets_error."""

    def __init__(self, error):
        self.error = error


class BadPieces(SpanError):
    """A value is not pieces."""


class BadInterval(SpanError):
    """A value is not an interval."""

    def __init__(self, value):
        self.value = value


class Duplicate(SpanError):
    """An interval is already there."""

    def __init__(self, value):
        self.value = value


class TooManyEdits(SpanError):
    """As many edits stand as a plan can have."""


class NothingToUndo(SpanError):
    """No edit stands."""


class BadEdits(SpanError):
    """A value is not a list or tuple of edits, or it is too long."""


class BadEdit(SpanError):
    """The item at the index is not an edit."""

    def __init__(self, index):
        self.index = index


class Rejected(SpanError):
    """The edit at the index raised an error."""

    def __init__(self, index):
        self.index = index


class Busy(SpanError):
    """A plan cannot be edited while it is being checked."""


class BadText(SpanError):
    """The word at the index does not fit, or the value is not a text at all (index None)."""

    def __init__(self, index):
        self.index = index


class Unknown(LookupError):
    """A value is not a target or a piece of the plan."""

    def __init__(self, value):
        self.value = value


class NoVersion(LookupError):
    """A value is not a version of the plan."""

    def __init__(self, value):
        self.value = value
