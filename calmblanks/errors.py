"""The errors that the package raises: each derives directly from BlankError."""


class BlankError(ValueError):
    """What is asked can't be told."""

    def __init__(self):
        """An error without fields takes nothing, so that each is made with just its fields."""


class BadSizes(BlankError):
    """What is passed as sizes are none."""


class NoPattern(BlankError):
    """What is passed is no pattern that can stand here."""


class NoContent(BlankError):
    """What is passed is no content."""


class OtherSizes(BlankError):
    """The two are not wholes of the same sizes."""


class NoFraction(BlankError):
    """What is passed is no fraction that can stand here."""


class NoThing(BlankError):
    """What is passed is no thing of the web."""


class OtherColumns(BlankError):
    """The web has another number of columns."""


class NotAll(BlankError):
    """The table has not all patterns."""


class NoLots(BlankError):
    """What is passed are not three lots of things that share none."""


class NoTie(BlankError):
    """What is passed is no tie of the web."""


class NoNumber(BlankError):
    """What is passed is no number that can stand here."""


class NoWay(BlankError):
    """What is passed is no plain way."""


class NoWish(BlankError):
    """What is passed is no wish."""


class NoGroup(BlankError):
    """What is passed is no group beside the wish."""


class NoColumn(BlankError):
    """What is passed is no column of the table."""


class NoView(BlankError):
    """What is passed is no view that can stand here."""


class NotTilted(BlankError):
    """The whole is not tilted by any tilts."""


class NotAlike(BlankError):
    """The two wholes are not hidden alike."""


class BadFamily(BlankError):
    """What is passed is no family of patterns."""


class NoRow(BlankError):
    """What is passed is no number of a row that stands."""


class NothingDone(BlankError):
    """Nothing was done that could be taken back."""


class NoRows(BlankError):
    """No row stands."""


class NoLead(BlankError):
    """What is passed is no lead for the column."""


class LastColumn(BlankError):
    """The table has no other column."""


class NoLine(BlankError):
    """What is passed is no line that the desk knows."""


class NoArrow(BlankError):
    """The arrow is there already, or is not there, or can't be."""


class NoLines(BlankError):
    """What is passed is no list or tuple of lines."""


class BadSeen(BlankError):
    """What is passed makes no seen table: part tells where."""

    def __init__(self, part):
        self.part = part


class BadWhole(BlankError):
    """What is passed makes no whole: part tells where."""

    def __init__(self, part):
        self.part = part


class BadRow(BlankError):
    """The row with this index is no view; -1 for no rows at all."""

    def __init__(self, index):
        self.index = index


class BadWeb(BlankError):
    """What is passed makes no web: part tells where."""

    def __init__(self, part):
        self.part = part


class BadTables(BlankError):
    """The tables are not so for this thing; -1 for no tuple of as many."""

    def __init__(self, thing):
        self.thing = thing


class NotTold(BlankError):
    """This column is tied to its own blank."""

    def __init__(self, column):
        self.column = column


class NotFull(BlankError):
    """This view lacks in the seen table."""

    def __init__(self, view):
        self.view = view


class TooMany(BlankError):
    """There are more columns than this."""

    def __init__(self, most):
        self.most = most


class NoShares(BlankError):
    """No row is taken that has these worths of the group."""

    def __init__(self, worths):
        self.worths = worths


class BadText(BlankError):
    """The text can't stand so: at tells the place, or the line."""

    def __init__(self, at):
        self.at = at


class NotCalm(BlankError):
    """The whole is not calm along this column."""

    def __init__(self, column):
        self.column = column


class NotClosed(BlankError):
    """This pattern lacks in the family."""

    def __init__(self, pattern):
        self.pattern = pattern


class BadTilts(BlankError):
    """The tilts are not so for this column; -1 for no tuple of as many."""

    def __init__(self, column):
        self.column = column


class BadFilling(BlankError):
    """The filler gives no filling for this view."""

    def __init__(self, view):
        self.view = view


class BadThrow(BlankError):
    """The throw with this index is none; -1 for no list or tuple."""

    def __init__(self, index):
        self.index = index
