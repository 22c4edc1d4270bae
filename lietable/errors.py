"""What the program refuses, one error class for each kind of refusal."""


class TableError(ValueError):
    """Any refusal."""


class NoTable(TableError):
    """The numbers are not those of a table."""


class NoSign(TableError):
    """What should be a sign is none."""


class NoHand(TableError):
    """What should be a hand of the table is none, or stands there twice."""


class NoSaying(TableError):
    """What should be a path that a liar says along, and a hearer, is not."""


class Over(TableError):
    """All rounds are played already."""


class NotOver(TableError):
    """There are rounds to be played yet."""
