"""The refusals of the program."""


class PoolError(ValueError):
    """Any refusal."""


class TooMany(PoolError):
    """More than may be looked through; most is how many may be."""

    def __init__(self, most):
        self.most = most


class Odd(PoolError):
    """A kind or a thing, what, in which a house stands twice."""

    def __init__(self, what):
        self.what = what


class NoThing(PoolError):
    """No thing of the book."""


class NoKind(PoolError):
    """No column of the book, so that it calls no kind."""


class NoName(PoolError):
    """No name."""


class Taken(PoolError):
    """It is there already."""


class NoColumns(PoolError):
    """No columns of a table."""


class Full(PoolError):
    """No more of these may come."""


class NoHouse(PoolError):
    """No house of the pool."""


class NoRow(PoolError):
    """No row, or no id of one."""


class NoColumn(PoolError):
    """No column of the pool."""


class Same(PoolError):
    """Both are of one house."""


class NoKey(PoolError):
    """No key for the pool."""
