"""The errors that the package raises; what one tells stands in attributes of the names in its brackets."""


class NoArea(LookupError):
    """A string that ought to be an area is none."""

    def __init__(self, name):
        LookupError.__init__(self, name)
        self.name = name


class NoDeed(LookupError):
    """There is no DEED at this place."""

    def __init__(self, place):
        LookupError.__init__(self, place)
        self.place = place


class NoOffice(LookupError):
    """There is no office of this number."""

    def __init__(self, number):
        LookupError.__init__(self, number)
        self.number = number


class NoParcel(LookupError):
    """A string that ought to be a parcel is none."""

    def __init__(self, name):
        LookupError.__init__(self, name)
        self.name = name


class NoPoint(LookupError):
    """There is no POINT at this place."""

    def __init__(self, place):
        LookupError.__init__(self, place)
        self.place = place


class NothingDone(LookupError):
    """There is nothing that could be taken back."""


class BadLine(ValueError):
    """The line of this number, counted from 0, is not as it must be."""

    def __init__(self, number):
        ValueError.__init__(self, number)
        self.number = number


class BadText(ValueError):
    """The piece of this number, counted from 0, is not as it must be."""

    def __init__(self, piece):
        ValueError.__init__(self, piece)
        self.piece = piece


class CanNot(ValueError):
    """What is asked for does not exist."""


class Known(ValueError):
    """What ought to be a new name is there already."""

    def __init__(self, name):
        ValueError.__init__(self, name)
        self.name = name


class Unfit(ValueError):
    """What is handed in does not fit together."""
