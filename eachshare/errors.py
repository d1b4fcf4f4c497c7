"""The errors of the package."""


class ShareError(ValueError):
    """A value that is not what it should be."""


class InvalidName(ShareError):
    """No name."""


class InvalidRow(ShareError):
    """No row of the deeds that are there."""


class InvalidHouse(ShareError):
    """No house."""


class InvalidWish(ShareError):
    """No wish."""


class InvalidShare(ShareError):
    """No share."""


class InvalidOperation(ShareError):
    """Nothing that can be done with these values."""


class Unmatched(ShareError):
    """Two linked hands whose own rows do not agree."""

    def __init__(self, pair):
        self.pair = pair


class ParseError(ShareError):
    """The first line of a text that is not right."""

    def __init__(self, index):
        self.index = index


class InvalidNumber(IndexError):
    """No number that is possible here."""

    def __init__(self, value):
        self.value = value

    def __str__(self):
        return repr(self.value)


class UnknownName(KeyError):
    """No name of anything that is there."""

    def __init__(self, name):
        self.name = name

    def __str__(self):
        return repr(self.name)


class TooMany(OverflowError):
    """More than a limit allows."""

    def __init__(self, limit):
        self.limit = limit


class NothingToUndo(LookupError):
    """Fewer calls than are to be undone or done again."""

    def __init__(self, many):
        self.many = many


class Unsteady(ArithmeticError):
    """A wish that is not steady for its house."""

    def __init__(self, breach):
        self.breach = breach


class Refused(ArithmeticError):
    """A deed that is refused for the wish of this name."""

    def __init__(self, name):
        self.name = name
