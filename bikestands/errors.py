"""The errors of the package: each one is of the base class under which it stands."""


class NotRight(ValueError):
    """A value is not what it should be."""


class InvalidText(NotRight):
    """A value that is not the text, or the line, that is asked for."""

    def __init__(self, given):
        self.given = given


class InvalidSlots(NotRight):
    """A value that is no number of slots."""

    def __init__(self, given):
        self.given = given


class InvalidName(NotRight):
    """A value that is no name."""

    def __init__(self, given):
        self.given = given


class InvalidAsk(NotRight):
    """A value that is no ask of the town."""

    def __init__(self, given):
        self.given = given


class InvalidFact(NotRight):
    """A value that is no fact of the town."""

    def __init__(self, given):
        self.given = given


class InvalidRecord(NotRight):
    """A value that is no record of the town."""

    def __init__(self, given):
        self.given = given


class InvalidWord(NotRight):
    """A value that is not the word for an end of a range."""

    def __init__(self, given):
        self.given = given


class InvalidWish(NotRight):
    """A value that is no wish."""

    def __init__(self, given):
        self.given = given


class InvalidClaim(NotRight):
    """A value that is no claim."""

    def __init__(self, given):
        self.given = given


class InvalidPlace(NotRight):
    """A value that is not the index of anything there."""

    def __init__(self, given):
        self.given = given


class NotATown(NotRight):
    """A value that is no town."""

    def __init__(self, given):
        self.given = given


class NotALog(NotRight):
    """A value that is no log."""

    def __init__(self, given):
        self.given = given


class InvalidStands(NotRight):
    """Stands of which the one with this index is not valid; None stands for all."""

    def __init__(self, index):
        self.index = index


class InvalidRoads(NotRight):
    """Roads of which the one with this index is not valid; None stands for all."""

    def __init__(self, index):
        self.index = index


class InvalidFacts(NotRight):
    """Facts of which the one with this index is not valid; None stands for all."""

    def __init__(self, index):
        self.index = index


class InvalidReadings(NotRight):
    """Readings of which the one with this index is not valid; None stands for all."""

    def __init__(self, index):
        self.index = index


class InvalidWishes(NotRight):
    """Wishes of which the one with this index is not valid; None stands for all."""

    def __init__(self, index):
        self.index = index


class InvalidChanges(NotRight):
    """Changes of which the one with this index is not valid; None stands for all."""

    def __init__(self, index):
        self.index = index


class NotThere(LookupError):
    """A name is not there, or is still needed."""


class UnknownName(NotThere):
    """A value that is not the name of anything there."""

    def __init__(self, given):
        self.given = given


class InUse(NotThere):
    """The claim with this index is about what should be taken away."""

    def __init__(self, index):
        self.index = index


class CannotBe(ArithmeticError):
    """Each value is right, but together they cannot be."""


class Impossible(CannotBe):
    """No record fits the log."""


class OtherTown(CannotBe):
    """Two logs are not of the same town."""


class TooMany(CannotBe):
    """There would be more than this most."""

    def __init__(self, most):
        self.most = most


class Contradicts(CannotBe):
    """With this fact no record would fit."""

    def __init__(self, given):
        self.given = given


class NothingToUndo(CannotBe):
    """No change is left that can be taken back."""


class Broken(CannotBe):
    """The claim with this index would not hold; the range shown is why, if there is one."""

    def __init__(self, index, shown):
        self.index = index
        self.shown = shown
