"""The errors that the package raises."""


class NoName(LookupError):
    """There is no BILL of this NAME."""

    def __init__(self, name):
        self.name = name


class NoPhoto(LookupError):
    """There is no PHOTO of this number."""

    def __init__(self, photo):
        self.photo = photo


class NoNumber(LookupError):
    """Nothing that is counted has this number."""

    def __init__(self, number):
        self.number = number


class NothingDone(LookupError):
    """There is no deed left to take back."""


class NoHistory(ValueError):
    """Nothing that could have happened fits what is told."""


class NotOver(ValueError):
    """The BILL of this NAME does not lie over this CELL."""

    def __init__(self, name, cell):
        self.name = name
        self.cell = cell


class Twice(ValueError):
    """Two BILLs would have this NAME."""

    def __init__(self, name):
        self.name = name


class BadText(ValueError):
    """Nothing is written as this text."""


class BadLine(ValueError):
    """The line of this number cannot stand where it stands."""

    def __init__(self, number):
        self.number = number
