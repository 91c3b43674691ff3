"""All errors that the program raises."""


class KithwholeError(ValueError):
    """The base class of all errors of the program."""


class InvalidArgument(KithwholeError):
    """An argument is not one of those that are told."""


class InvalidName(InvalidArgument):
    """A text is not the written form of a name, a spot or a mark."""


class UncountedChange(KithwholeError):
    """A change would not count."""


class DamagedPacket(KithwholeError):
    """Data are not the written form of what is read."""


class UnfitPacket(KithwholeError):
    """A packet does not fit the store that takes it."""


class PowerOff(KithwholeError):
    """The power of a replica is off."""


class ReplicaClosed(KithwholeError):
    """A replica is closed."""


class ReplicaOpen(KithwholeError):
    """A replica is open already."""


class NothingToTrim(KithwholeError):
    """There is no past that can be cut away."""


class ShortStock(KithwholeError):
    """An act takes more out of a stock than the share that it knows."""

    def __init__(self, missing):
        super().__init__(f"the share is short by {missing}")
        self.missing = missing


class NoMoment(KithwholeError):
    """Counts are no moment of a store."""


class ForgottenPast(NoMoment):
    """Counts name a moment that is cut away."""


class EditError(KithwholeError):
    """An edit is not taken. `place` is its index among the edits."""

    def __init__(self, place):
        super().__init__(f"edit {place} is not taken")
        self.place = place


class NoSuchRow(EditError):
    """The lens does not show the row of the edit."""


class NotWritable(EditError):
    """A name of the edit cannot be written."""

    def __init__(self, place, name):
        super().__init__(place)
        self.name = name


class WrongValue(EditError):
    """A column cannot hold the value of the edit."""

    def __init__(self, place, name):
        super().__init__(place)
        self.name = name


class TurnsMore(EditError):
    """The edit turns more than what is due."""

    def __init__(self, place, source, row):
        super().__init__(place)
        self.source = source
        self.row = row


class QuestionError(KithwholeError):
    """The base class of the errors of questions."""


class RefusedText(QuestionError):
    """A text is no question. `position` tells where it is refused."""

    def __init__(self, position):
        super().__init__(f"refused at position {position}")
        self.position = position


class UnknownTable(QuestionError):
    """No source has the name."""

    def __init__(self, name):
        super().__init__(f"unknown table: {name}")
        self.name = name


class UnknownColumn(QuestionError):
    """No column has the name."""

    def __init__(self, name):
        super().__init__(f"unknown column: {name}")
        self.name = name


class AmbiguousColumn(QuestionError):
    """Several columns have the name."""

    def __init__(self, name):
        super().__init__(f"ambiguous column: {name}")
        self.name = name


class DuplicateSource(QuestionError):
    """Two sources are known by the name."""

    def __init__(self, name):
        super().__init__(f"duplicate source: {name}")
        self.name = name


class NotGrouped(QuestionError):
    """A column is used that is no column of the groups."""

    def __init__(self, name):
        super().__init__(f"not grouped: {name}")
        self.name = name


class UnknownParameter(QuestionError):
    """There is no parameter with the number."""

    def __init__(self, number):
        super().__init__(f"unknown parameter: {number}")
        self.number = number


class UnknownPosition(QuestionError):
    """There is no column at the position."""

    def __init__(self, number):
        super().__init__(f"unknown position: {number}")
        self.number = number


class KindMismatch(QuestionError):
    """Kinds do not fit."""


class ColumnCount(QuestionError):
    """A query has another number of columns than is needed."""


class RowCount(QuestionError):
    """A query might not have exactly one row."""


class AggregateNotAllowed(QuestionError):
    """An aggregate stands where none may stand."""


class GroupingNotAllowed(QuestionError):
    """Rows are grouped by what is not a column of the select."""


class NothingToShow(QuestionError):
    """All columns are asked for where there are none."""


class NoReason(QuestionError):
    """No reasons are told for such a question."""


class NoPlan(QuestionError):
    """There is no such plan."""
