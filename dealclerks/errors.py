"""The refusals: one class for each, all of them straight under DealError."""


class DealError(ValueError):
    """Any refusal."""


class NoFamily(DealError):
    """What was handed in for a family is none."""


class NoKind(DealError):
    """What was handed in for a kind is none of the family."""


class NoCaller(DealError):
    """What was handed in for a caller is none of the family."""


class NoHouse(DealError):
    """What was handed in for a house is none."""


class NoSign(DealError):
    """What was handed in for a sign is none that is due."""


class NoSide(DealError):
    """What was handed in for a side is none that the sign has."""


class NoRanks(DealError):
    """What was handed in for ranks is none."""


class NoTree(DealError):
    """What was handed in for a tree is none."""


class NoRow(DealError):
    """What was handed in for a row of wares is none."""


class NoElders(DealError):
    """What was handed in for elders is none."""


class NoWriting(DealError):
    """What was handed in for a writing is none."""


class Missing(DealError):
    """No writing stands where one is to be struck."""


class NoDeed(DealError):
    """No deed stands that could be undone."""


class Unlike(DealError):
    """Two houses have unlike families or mirrors."""


class BadLine(DealError):
    """What was told to a desk is no line."""


class NoLine(DealError):
    """A family isn't lined: at is the least kind without a line."""

    def __init__(self, at):
        self.at = at


class NoText(DealError):
    """A text can't be read: at is where, -1 where it is no text."""

    def __init__(self, at):
        self.at = at


class Nobody(DealError):
    """A meeting is answered by nobody: at is how many were made ahead of it."""

    def __init__(self, at):
        self.at = at


class Empty(DealError):
    """Nothing is at a place: at is the place."""

    def __init__(self, at):
        self.at = at


class TooMany(DealError):
    """There are, or would be, many of something of which most are allowed."""

    def __init__(self, many, most):
        self.many = many
        self.most = most
