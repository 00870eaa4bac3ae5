"""All exceptions of the package."""


class RoadError(ValueError):
    """The base class of all exceptions of the package."""


class InvalidRoad(RoadError):
    """Sections do not make a road; `index` is that of the first wrong one."""

    def __init__(self, index):
        self.index = index


class InvalidCars(RoadError):
    """Something is not a tuple of cars; `index` is that of the first wrong item."""

    def __init__(self, index):
        self.index = index


class InvalidNumber(RoadError):
    """A number is outside of its limits, or is not a number."""


class UnknownCar(RoadError):
    """There is no car with the name `name`."""

    def __init__(self, name):
        self.name = name


class UnknownSection(RoadError):
    """There is no section with the number `index`."""

    def __init__(self, index):
        self.index = index


class InvalidName(RoadError):
    """A name is not one of a car, or is in use."""


class TooManyCars(RoadError):
    """There is no room for a further car."""


class InvalidKind(RoadError):
    """A kind of a section is neither "narrow" nor "wide"."""


class AlreadyOpen(RoadError):
    """A block of a live road is entered within another one."""


class InvalidOperation(RoadError):
    """Something is not an operation; `index` is that of the first such argument."""

    def __init__(self, index):
        self.index = index


class Contradiction(RoadError):
    """An observation excludes all candidates."""


class InvalidArrivals(RoadError):
    """No road has these arrivals; `index` is that of the first wrong item."""

    def __init__(self, index):
        self.index = index


class NotationError(RoadError):
    """A text does not have the right form, from the word `word` of the row `row` on."""

    def __init__(self, row, word):
        self.row = row
        self.word = word


class InvalidCount(RoadError):
    """Something is not a list of the values of bytes."""


class DecodeError(RoadError):
    """Bytes do not encode traffic; `offset` is that of the first invalid one."""

    def __init__(self, offset):
        self.offset = offset
