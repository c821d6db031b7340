"""The error classes of the package: one for each kind of failure."""


class IndoubtError(ValueError):
    """The base class of all errors of the package."""


class StringArithmetic(IndoubtError):
    """A string is added, subtracted or summed up."""


class MixedComparison(IndoubtError):
    """An integer is compared with a string."""


class ValueTooLarge(IndoubtError):
    """The bound of an expression or of a column is too large."""


class TooManyRows(IndoubtError):
    """The answer of a query could have too many rows."""


class ColumnsDiffer(IndoubtError):
    """Two lists of columns that must be the same differ."""


class Contradiction(IndoubtError):
    """No outcome would be possible any more."""


class InvalidBeginning(IndoubtError):
    """The beginning of a database is not valid."""


class BeginningIncomplete(IndoubtError):
    """A log is cut off before the end of its beginning."""


class UnknownColumn(IndoubtError):
    """There is no column with this name."""

    def __init__(self, name):
        super().__init__(f"there is no column {name}")
        self.name = name


class DuplicateColumn(IndoubtError):
    """A column with this name stands there already."""

    def __init__(self, name):
        super().__init__(f"the column {name} stands there already")
        self.name = name


class UnknownTable(IndoubtError):
    """There is no table, or no relation, with this name."""

    def __init__(self, name):
        super().__init__(f"there is no table {name}")
        self.name = name


class KindsDiffer(IndoubtError):
    """A column is an integer at one place and a string at another one."""

    def __init__(self, name):
        super().__init__(f"the column {name} is an integer at one place and a string at another one")
        self.name = name


class DuplicateName(IndoubtError):
    """Something with this name was declared already."""

    def __init__(self, name):
        super().__init__(f"the name {name} was declared already")
        self.name = name


class KeyMismatch(IndoubtError):
    """A reference does not fit the key of the table with this name."""

    def __init__(self, name):
        super().__init__(f"the reference does not fit the key of {name}")
        self.name = name


class RowMismatch(IndoubtError):
    """A row cannot be stored in the table with this name."""

    def __init__(self, name):
        super().__init__(f"a row cannot be stored in {name}")
        self.name = name


class AlreadyPrepared(IndoubtError):
    """A branch of the transaction with this name was prepared before."""

    def __init__(self, name):
        super().__init__(f"a branch of {name} was prepared before")
        self.name = name


class AlreadyDecided(IndoubtError):
    """The transaction with this name is decided."""

    def __init__(self, name):
        super().__init__(f"the transaction {name} is decided")
        self.name = name


class TooManyUndecided(IndoubtError):
    """So many names would be undecided."""

    def __init__(self, count):
        super().__init__(f"{count} names would be undecided")
        self.count = count


class NotCertain(IndoubtError):
    """A result depends on the transactions with these names."""

    def __init__(self, names):
        super().__init__(f"the result depends on {names}")
        self.names = names


class UnknownOutcome(IndoubtError):
    """This outcome is not one of the possible outcomes."""

    def __init__(self, outcome):
        super().__init__(f"the outcome {outcome} is not possible")
        self.outcome = outcome


class UnknownVersion(IndoubtError):
    """There is no version with this number."""

    def __init__(self, number):
        super().__init__(f"there is no version {number}")
        self.number = number


class InvalidLine(IndoubtError):
    """The line of a log with this number is not the line of an entry."""

    def __init__(self, number):
        super().__init__(f"line {number} is not the line of an entry")
        self.number = number


class TextError(IndoubtError):
    """The base class of the errors in texts; the place is the number of characters before the error."""

    def __init__(self, place):
        super().__init__(f"at place {place}")
        self.place = place


class UnexpectedCharacter(TextError):
    """No token begins with this character, or it cannot stand in a string."""


class NameTooLong(TextError):
    """A word has too many characters."""


class NumberTooLarge(TextError):
    """A number has too many digits or is too large."""


class StringNotClosed(TextError):
    """The text ends inside a string."""


class StringTooLong(TextError):
    """A string has too many characters."""


class UnexpectedToken(TextError):
    """This token cannot stand here."""


class NestedTooDeeply(TextError):
    """This token could stand here on a lower level only."""
