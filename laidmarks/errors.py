"""The refusals of the program, one class for each."""


class MarkError(ValueError):
    """Any refusal."""


class NoSea(MarkError):
    """What was handed in is no sea."""


class NoCell(MarkError):
    """What was handed in is no cell of the sea."""


class NoDraught(MarkError):
    """What was handed in is no draught."""


class NoDay(MarkError):
    """What was handed in is no day, or no number of days."""


class NoNotices(MarkError):
    """What was handed in are no notices of the sea."""


class NoNumber(MarkError):
    """What was handed in is no number that can stand there."""


class NoMark(MarkError):
    """What was handed in is no mark."""


class NoChannel(MarkError):
    """What was handed in is no channel."""


class NoSightings(MarkError):
    """What was handed in are no sightings of the sea."""


class NoFairway(MarkError):
    """What was handed in is no fairway."""


class NoSide(MarkError):
    """What was handed in is no side of a fairway."""


class NoColumns(MarkError):
    """What was handed in are no columns for marks."""


class NoLine(MarkError):
    """What a desk was told is no line that it knows."""


class There(MarkError):
    """The notice is kept already."""


class Nothing(MarkError):
    """There is nothing to undo."""


class Unlike(MarkError):
    """Another notice with this number is kept."""

    def __init__(self, number):
        MarkError.__init__(self, f"another notice has the number {number}")
        self.number = number


class NoText(MarkError):
    """A text writes nothing that is wanted; row is where it goes wrong."""

    def __init__(self, row):
        MarkError.__init__(self, f"row {row} is not so written")
        self.row = row


class TooMany(MarkError):
    """There would be so many notices where there may be so many at most."""

    def __init__(self, many, most):
        MarkError.__init__(self, f"{many} where at most {most} may be")
        self.many = many
        self.most = most
