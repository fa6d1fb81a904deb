"""The errors: each stands under one of the three bases, and tells what was wrong."""


class WrongValue(ValueError):
    """What was passed is not what is asked."""


class InvalidNumber(WrongValue):
    """A value that is no number of the kind or size that is asked."""

    def __init__(self, given):
        self.given = given


class InvalidText(WrongValue):
    """A value that is not the text of what is asked."""

    def __init__(self, given):
        self.given = given


class InvalidName(WrongValue):
    """A value that is no name of the kind that is asked."""

    def __init__(self, given):
        self.given = given


class InvalidButton(WrongValue):
    """A value that is no button of the table."""

    def __init__(self, given):
        self.given = given


class InvalidRenaming(WrongValue):
    """A value that is no tuple of all buttons, each once."""

    def __init__(self, given):
        self.given = given


class InvalidStep(WrongValue):
    """A value that is no step that can be done at the word."""

    def __init__(self, given):
        self.given = given


class InvalidDeed(WrongValue):
    """A value that is no deed of the table."""

    def __init__(self, given):
        self.given = given


class InvalidWish(WrongValue):
    """A value that is no wish."""

    def __init__(self, given):
        self.given = given


class InvalidLine(WrongValue):
    """A value that is no line that a console knows."""

    def __init__(self, given):
        self.given = given


class InvalidDeal(WrongValue):
    """A value that is no deal of the kind that is asked."""

    def __init__(self, given):
        self.given = given


class InvalidThrows(WrongValue):
    """A value that is no tuple of throws that can be juggled."""

    def __init__(self, given):
        self.given = given


class NotATable(WrongValue):
    """A value that is no table."""

    def __init__(self, given):
        self.given = given


class NotAChange(WrongValue):
    """A value that is no change."""

    def __init__(self, given):
        self.given = given


class NotAWall(WrongValue):
    """A value that is no wall."""

    def __init__(self, given):
        self.given = given


class NotAPositive(WrongValue):
    """A value that is no positive."""

    def __init__(self, given):
        self.given = given


class NotAQuotient(WrongValue):
    """A value that is no quotient."""

    def __init__(self, given):
        self.given = given


class NotABench(WrongValue):
    """A value that is no bench."""

    def __init__(self, given):
        self.given = given


class InvalidTies(WrongValue):
    """Ties that make no table."""

    def __init__(self, index):
        self.index = index


class InvalidWord(WrongValue):
    """A value that is no word of the table."""

    def __init__(self, index):
        self.index = index


class InvalidRoom(WrongValue):
    """A value that is no room of the table."""

    def __init__(self, index):
        self.index = index


class InvalidVector(WrongValue):
    """A value that is no vector of the table."""

    def __init__(self, index):
        self.index = index


class InvalidWalls(WrongValue):
    """A value that is no tuple of unlike walls of the table."""

    def __init__(self, index):
        self.index = index


class InvalidChanges(WrongValue):
    """A value that is no tuple of changes of one table."""

    def __init__(self, index):
        self.index = index


class InvalidCoefficients(WrongValue):
    """A value that is no tuple of coefficients."""

    def __init__(self, index):
        self.index = index


class InvalidTerms(WrongValue):
    """A value that is no tuple of terms of the table."""

    def __init__(self, index):
        self.index = index


class InvalidSigned(WrongValue):
    """A value that is no signed word of the table."""

    def __init__(self, index):
        self.index = index


class InvalidPairs(WrongValue):
    """A value that is no tuple of names with changes."""

    def __init__(self, index):
        self.index = index


class OtherTable(WrongValue):
    """Two things that should be of one table are of unlike ones."""


class WrongName(LookupError):
    """A name does not serve."""


class UnknownName(WrongName):
    """A name under which nothing is kept."""

    def __init__(self, given):
        self.given = given


class InUse(WrongName):
    """A name that a wish still has."""

    def __init__(self, index):
        self.index = index


class NoAnswer(ArithmeticError):
    """What was passed is well formed, but has no answer."""


class TooMany(NoAnswer):
    """There are more than the told bound, or as many as told, which is too many."""

    def __init__(self, given):
        self.given = given


class TooFew(NoAnswer):
    """There are fewer than can be."""

    def __init__(self, given):
        self.given = given


class NotAFlip(NoAnswer):
    """A change that does not undo itself."""

    def __init__(self, given):
        self.given = given


class NotDressed(NoAnswer):
    """A change whose table is none of those that deals stand for."""

    def __init__(self, given):
        self.given = given


class Broken(NoAnswer):
    """A wish would not hold any more."""

    def __init__(self, index):
        self.index = index


class NotFinite(NoAnswer):
    """A table or a room is not finite."""


class AllFinite(NoAnswer):
    """All pieces of a table are finite."""


class NothingToUndo(NoAnswer):
    """No deed is left that could be taken back."""
