"""All errors of the package. Each one carries its fields and, as `tag`, the name of its class."""


class TownError(ValueError):
    """The base of the errors about wrong values."""

    def __init__(self):
        self.tag = "TownError"


class Missing(LookupError):
    """The base of the errors about what is not there."""

    def __init__(self):
        self.tag = "Missing"


class InvalidLetters(TownError):
    """The letters of a town are not valid from this index on."""

    def __init__(self, at):
        self.at = at
        self.tag = "InvalidLetters"


class InvalidWord(TownError):
    """The word at this position is not a word for the letters."""

    def __init__(self, at):
        self.at = at
        self.tag = "InvalidWord"


class InvalidCounts(TownError):
    """A tuple does not have one number for each column of the table."""

    def __init__(self):
        self.tag = "InvalidCounts"


class InvalidTable(TownError):
    """The row with this index is not a row of the table's width."""

    def __init__(self, at):
        self.at = at
        self.tag = "InvalidTable"


class InvalidStreet(TownError):
    """The tuple with this index does not name a street."""

    def __init__(self, at):
        self.at = at
        self.tag = "InvalidStreet"


class InvalidRule(TownError):
    """The rule with this index is not valid."""

    def __init__(self, at):
        self.at = at
        self.tag = "InvalidRule"


class InvalidTolls(TownError):
    """The place with this index does not have valid tolls."""

    def __init__(self, at):
        self.at = at
        self.tag = "InvalidTolls"


class InvalidStep(TownError):
    """The step with this index is not possible."""

    def __init__(self, at):
        self.at = at
        self.tag = "InvalidStep"


class InvalidLead(TownError):
    """The word with this index is not a word for the lead."""

    def __init__(self, at):
        self.at = at
        self.tag = "InvalidLead"


class InvalidNumber(TownError):
    """A number is outside of its range."""

    def __init__(self, given):
        self.given = given
        self.tag = "InvalidNumber"


class ParseError(TownError):
    """A text cannot be read from this index on."""

    def __init__(self, at):
        self.at = at
        self.tag = "ParseError"


class TooLong(TownError):
    """A word, or a sum, is longer than the limit."""

    def __init__(self, limit):
        self.limit = limit
        self.tag = "TooLong"


class TooWide(TownError):
    """A table has more places than the limit."""

    def __init__(self, limit):
        self.limit = limit
        self.tag = "TooWide"


class Endless(TownError):
    """A table does not have a finite number of places."""

    def __init__(self):
        self.tag = "Endless"


class Unlike(TownError):
    """Two values do not belong to each other."""

    def __init__(self):
        self.tag = "Unlike"


class NotASum(TownError):
    """A list is not a sum for the two words."""

    def __init__(self):
        self.tag = "NotASum"


class NoWord(TownError):
    """There is no word with this walk."""

    def __init__(self):
        self.tag = "NoWord"


class UnknownRule(TownError):
    """There is no rule with this number."""

    def __init__(self, number):
        self.number = number
        self.tag = "UnknownRule"


class InvalidName(TownError):
    """A name or a label is not valid."""

    def __init__(self, name):
        self.name = name
        self.tag = "InvalidName"


class DuplicateName(TownError):
    """A name or a label is used already."""

    def __init__(self, name):
        self.name = name
        self.tag = "DuplicateName"


class CapacityExceeded(TownError):
    """There would be more towns or claims than the limit."""

    def __init__(self, limit):
        self.limit = limit
        self.tag = "CapacityExceeded"


class InUse(TownError):
    """The claim with this label has the name of the town."""

    def __init__(self, label):
        self.label = label
        self.tag = "InUse"


class InvalidCommand(TownError):
    """A tuple with this first item is not a command."""

    def __init__(self, first):
        self.first = first
        self.tag = "InvalidCommand"


class Broken(TownError):
    """The claim with this label does not hold."""

    def __init__(self, label):
        self.label = label
        self.tag = "Broken"


class InvalidLimit(TownError):
    """A limit is outside of its range."""

    def __init__(self, given):
        self.given = given
        self.tag = "InvalidLimit"


class UnknownName(Missing):
    """There is no town or claim with this name or label."""

    def __init__(self, name):
        self.name = name
        self.tag = "UnknownName"


class NothingLeft(IndexError):
    """There is no step to undo or to redo."""

    def __init__(self):
        self.tag = "NothingLeft"
