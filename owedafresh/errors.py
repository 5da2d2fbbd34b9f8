"""The errors of the program: each one stores what was wrong in the attribute value."""


class BillError(ValueError):
    """Any error of the program."""

    def __init__(self, value):
        self.value = value


class InvalidName(BillError):
    """A name is not one to eight letters from a to z."""


class DoubleName(BillError):
    """Two people have one name."""


class InvalidWeight(BillError):
    """A weight is negative."""


class NoWeight(BillError):
    """The weights of all people have the sum 0."""


class InvalidState(BillError):
    """A rule has no state."""


class InvalidRow(BillError):
    """What is dealt for a rest lacks, is wrong, or is too much."""


class UnknownPerson(BillError):
    """A name is that of none of the people."""


class UnknownBill(BillError):
    """An index is that of no bill of a list."""


class UnlikePeople(BillError):
    """Two rules are not of the same people."""


class NotWhole(BillError):
    """Shares do not hang on the sum of all bills alone."""


class NotEven(BillError):
    """Balances do not have the sum 0."""


class NothingToUndo(BillError):
    """A ledger has nothing to take back."""


class Unreadable(BillError):
    """A text is that of no rule or list."""
