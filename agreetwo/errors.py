"""All errors of the package.

Each bears a copy of what it names. Python keeps the arguments of an error in args by itself, so each error
hands plain words to its base: what was passed is then kept nowhere.
"""

from agreetwo.values import copied


class AgreeError(ValueError):
    """What all errors have in common that tell of a call that does not fit."""


class Missing(LookupError):
    """What all errors have in common that tell of something that is not there."""


class TooMany(AgreeError):
    """There would be more than there may be."""

    def __init__(self):
        AgreeError.__init__(self, "more than there may be")
        self.called = "TooMany"


class UnlikeHeadings(AgreeError):
    """Two tables have to have one heading, and have not."""

    def __init__(self):
        AgreeError.__init__(self, "the headings are unlike")
        self.called = "UnlikeHeadings"


class Empty(AgreeError):
    """A total or a chance is 0."""

    def __init__(self):
        AgreeError.__init__(self, "a total or a chance is 0")
        self.called = "Empty"


class BadGroup(AgreeError):
    """A value is no group of headings."""

    def __init__(self):
        AgreeError.__init__(self, "no group of headings")
        self.called = "BadGroup"


class BadDeed(AgreeError):
    """A value is no deed."""

    def __init__(self):
        AgreeError.__init__(self, "no deed")
        self.called = "BadDeed"


class NothingDone(AgreeError):
    """There is nothing to undo or to redo."""

    def __init__(self):
        AgreeError.__init__(self, "nothing to undo or to redo")
        self.called = "NothingDone"


class BadRow(AgreeError):
    """The entry with this number is no row as it was asked for."""

    def __init__(self, number):
        AgreeError.__init__(self, "no row as it was asked for")
        self.called = "BadRow"
        self.number = copied(number)


class BadNumber(AgreeError):
    """A value is no number as it was asked for."""

    def __init__(self, number):
        AgreeError.__init__(self, "no number as it was asked for")
        self.called = "BadNumber"
        self.number = copied(number)


class BadFamily(AgreeError):
    """The entry with this number, or the whole value (None), does not fit the web."""

    def __init__(self, number):
        AgreeError.__init__(self, "no family of the web")
        self.called = "BadFamily"
        self.number = copied(number)


class BadExchange(AgreeError):
    """The heading with this number sees a part of an exchange, or nothing is exchanged (None)."""

    def __init__(self, number):
        AgreeError.__init__(self, "no exchange of the web")
        self.called = "BadExchange"
        self.number = copied(number)


class Unlike(AgreeError):
    """Two tables have unlike sums onto the heading with this number."""

    def __init__(self, number):
        AgreeError.__init__(self, "unlike sums onto a heading")
        self.called = "Unlike"
        self.number = copied(number)


class BadHeading(AgreeError):
    """A value is no heading."""

    def __init__(self, heading):
        AgreeError.__init__(self, "no heading")
        self.called = "BadHeading"
        self.heading = copied(heading)


class TooFew(AgreeError):
    """A table has a row fewer times than are to be taken."""

    def __init__(self, row):
        AgreeError.__init__(self, "too few of a row")
        self.called = "TooFew"
        self.row = copied(row)


class BadText(AgreeError):
    """A text is not of its form, from the character at this place on."""

    def __init__(self, place):
        AgreeError.__init__(self, "not of the form that was asked for")
        self.called = "BadText"
        self.place = copied(place)


class BadName(AgreeError):
    """A value is no name, or the name of something else."""

    def __init__(self, name):
        AgreeError.__init__(self, "no name that can be given")
        self.called = "BadName"
        self.name = copied(name)


class Clash(AgreeError):
    """What two sides have made of these names does not go together."""

    def __init__(self, names):
        AgreeError.__init__(self, "two sides do not go together")
        self.called = "Clash"
        self.names = copied(names)


class Cored(AgreeError):
    """A web has this core, and had to fold."""

    def __init__(self, core):
        AgreeError.__init__(self, "the web has a core")
        self.called = "Cored"
        self.core = copied(core)


class Folds(AgreeError):
    """A web has this folding, and had to have a core."""

    def __init__(self, pairs):
        AgreeError.__init__(self, "the web folds")
        self.called = "Folds"
        self.pairs = copied(pairs)


class Disagree(AgreeError):
    """Two tables, by what they are called if by anything, differ in a row over what they share."""

    def __init__(self, one, other, row):
        AgreeError.__init__(self, "two tables do not agree")
        self.called = "Disagree"
        self.one = copied(one)
        self.other = copied(other)
        self.row = copied(row)


class NoRow(Missing):
    """A value is no row that is there."""

    def __init__(self, row):
        Missing.__init__(self, "no such row")
        self.called = "NoRow"
        self.row = copied(row)


class UnknownColumn(Missing):
    """A value is no column that is there."""

    def __init__(self, column):
        Missing.__init__(self, "no such column")
        self.called = "UnknownColumn"
        self.column = copied(column)


class UnknownName(Missing):
    """A value is no name that is there."""

    def __init__(self, name):
        Missing.__init__(self, "no such name")
        self.called = "UnknownName"
        self.name = copied(name)


class NoMoment(Missing):
    """A value is no moment of the house."""

    def __init__(self, number):
        Missing.__init__(self, "no such moment")
        self.called = "NoMoment"
        self.number = copied(number)
