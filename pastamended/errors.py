"""The errors that the program raises."""


class DatabaseError(ValueError):
    """The base class of all errors that the program raises."""


class StatementError(DatabaseError):
    """A mistake at a place in the text of a statement."""

    def __init__(self, place):
        super().__init__(f"a mistake at place {place}")
        self.place = place


class SyntaxFault(StatementError):
    """The text is no statement."""


class UnknownName(StatementError):
    """There is no such table, column or source."""


class DuplicateName(StatementError):
    """A name or a rule stands once too often."""


class AmbiguousName(StatementError):
    """Several sources have a column of this name."""


class WrongKind(StatementError):
    """An expression or a column is not of the kind that is wanted."""


class WrongCount(StatementError):
    """There are too many or too few of something."""


class Misplaced(StatementError):
    """A word or a name stands where it may not stand."""


class WrongRule(StatementError):
    """A table cannot have such a rule."""


class WrongSpan(StatementError):
    """A span or a known part is empty or out of bounds."""


class WrongRegion(DatabaseError):
    """A value is not a region."""


class NotYetKnown(DatabaseError):
    """A question asks about a known number that is still to come."""

    def __init__(self, known):
        super().__init__(f"the known number {known} is still to come")
        self.known = known


class RuleBroken(DatabaseError):
    """A rule does not hold at a moment."""

    def __init__(self, table, rule, moment):
        super().__init__(f"rule {rule} of table {table} does not hold at moment {moment}")
        self.table = table
        self.rule = rule
        self.moment = moment


class Conflict(DatabaseError):
    """A statement that is replayed no longer gives the same answer."""

    def __init__(self, index):
        super().__init__(f"statement {index} no longer gives the same answer")
        self.index = index


class BadBlock(DatabaseError):
    """The disk has no such block, or the block may not have such a text."""

    def __init__(self, index):
        super().__init__(f"block {index} cannot be read or written like this")
        self.index = index


class DiskFull(DatabaseError):
    """The journal has not enough blocks left."""


class PowerLost(DatabaseError):
    """The power of the disk was lost."""


class Stopped(DatabaseError):
    """The database was stopped by a loss of power."""
