"""Roads of narrow and wide sections."""

from slowleaders.checks import is_number
from slowleaders.errors import InvalidNumber, InvalidRoad, UnknownSection

MOST_SECTIONS = 12
LONGEST_SECTION = 99
MOST_TIMES = 12
LETTERS = {"narrow": "n", "wide": "w"}
KINDS = {"n": "narrow", "w": "wide"}


def _is_section(value):
    """Tell whether a value is a section: a tuple of a kind and a length."""
    if not isinstance(value, tuple) or len(value) != 2:
        return False
    kind, length = value
    return kind in ("narrow", "wide") and is_number(length, 1, LONGEST_SECTION)


def _units_of(sections):
    """Return the string of all units of sections."""
    # Operators run this, so it must not call a method named join: live roads are changed by theirs.
    units = ""
    for kind, length in sections:
        units += LETTERS[kind] * length
    return units


def _runs(units):
    """Return the longest runs of units as a list of tuples of a kind and a length."""
    runs = []
    for letter in units:
        if runs and runs[-1][0] == letter:
            runs[-1][1] += 1
        else:
            runs.append([letter, 1])
    # A letter without a kind leads to None, so its run is no section.
    return [(KINDS.get(letter), length) for letter, length in runs]


class Road:
    """A road, given by its sections: tuples of a kind and a length. It never changes."""

    def __init__(self, *sections):
        if not sections:
            raise InvalidRoad(0)
        for index, section in enumerate(sections):
            if index == MOST_SECTIONS or not _is_section(section):
                raise InvalidRoad(index)
        self._sections = sections
        self._units = _units_of(sections)

    @classmethod
    def of_units(cls, units):
        """Return the road whose sections are the longest runs of a string of units."""
        if not isinstance(units, str):
            raise InvalidRoad(0)
        sections = _runs(units)
        return cls(*sections)

    @property
    def sections(self):
        """The tuple of all sections."""
        return self._sections

    @property
    def units(self):
        """The string of all units of length 1: n for a narrow and w for a wide one."""
        return self._units

    def widened(self, *indexes):
        """Return the road in which the sections with these numbers are wide, too."""
        for index in indexes:
            if not is_number(index, 0, len(self._sections) - 1):
                raise UnknownSection(index)
        sections = [
            ("wide" if at in indexes else kind, length)
            for at, (kind, length) in enumerate(self._sections)
        ]
        return Road(*sections)

    def __len__(self):
        return len(self._units)

    def __getitem__(self, at):
        if not is_number(at, 0, len(self._units) - 1):
            raise InvalidNumber("the road has no such unit")
        return KINDS[self._units[at]]

    def __iter__(self):
        raise TypeError("roads are not walked")

    def __contains__(self, x):
        return x in [kind for kind, length in self._sections]

    def __add__(self, other):
        if not isinstance(other, Road):
            return NotImplemented
        sections = self._sections + other._sections
        return Road(*sections)

    def __mul__(self, other):
        if not is_number(other, 1, MOST_TIMES):
            raise InvalidNumber("a road is taken from 1 to 12 times")
        sections = self._sections * other
        return Road(*sections)

    def __eq__(self, other):
        return isinstance(other, Road) and self._units == other._units
