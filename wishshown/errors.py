"""The errors that the program raises."""


class ViewError(ValueError):
    """The base class of all errors of the program."""


class BadName(ViewError):
    """The name of a table is no word, or an earlier table has it."""


class BadWidth(ViewError):
    """The width of a table or of a view is not a whole number from 1 to 4."""


class BadKey(ViewError):
    """The key of a table is neither None nor a whole number from 1 to its width."""


class BadSize(ViewError):
    """There are too few or too many of something."""


class UnknownTable(ViewError):
    """No table of the schema has the name."""


class BadRow(ViewError):
    """A row has the wrong width, or an element that cannot stand in it."""


class NotAscending(ViewError):
    """A fact is not after the fact before it."""


class KeyBroken(ViewError):
    """Two different facts have the same key."""

    def __init__(self, first, second):
        self.first = first
        self.second = second


class NotThere(ViewError):
    """A fact that is to be deleted does not stand in the database."""

    def __init__(self, fact):
        self.fact = fact


class AlreadyThere(ViewError):
    """A fact that is to be inserted stands in the database."""

    def __init__(self, fact):
        self.fact = fact


class BadTerm(ViewError):
    """An element of an atom, a head or a condition is no term."""


class BadSign(ViewError):
    """The sign of a condition is neither "=" nor "!="."""


class UnboundVariable(ViewError):
    """A variable of a head or of a condition stands in no atom."""


class BadText(ViewError):
    """A text is not the written form that it should be."""

    def __init__(self, line, column):
        self.line = line
        self.column = column


class UnknownView(ViewError):
    """A place is not that of a view."""


class BadDeed(ViewError):
    """The deed of an edit is neither "add" nor "remove"."""


class ClashingEdits(ViewError):
    """Two edits of the same row of the same view have different deeds."""


class BadMay(ViewError):
    """What may be deleted and inserted is not told by two truth values for each table."""


class NotPlain(ViewError):
    """A rule is not plain."""


class NotRemovable(ViewError):
    """A rule has no removal place."""


class RowNotThere(ViewError):
    """A row is no row of the rule in the database."""


class Removable(ViewError):
    """A rule has a removal place."""


class CannotBeDone(ViewError):
    """No change does the wish."""


class NothingToUndo(ViewError):
    """There is no deed that can be undone."""


class NothingToRedo(ViewError):
    """There is no deed that can be done again."""


class BadEntry(ViewError):
    """An entry of a journal is wrong."""

    def __init__(self, place):
        self.place = place
