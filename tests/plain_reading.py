"""Reading of roads by the plain words of point 15, as a second computation for the tests.

Units are a string of the letters n and w, of any length.
"""

import itertools

from plain_driving import plain_ticks

KINDS = {"n": "narrow", "w": "wide"}


def plain_arrival(units, unit):
    """Return the arrival of the car that reads a unit, on sections of one unit each."""
    sections = [(KINDS[letter], 1) for letter in units]
    return plain_ticks(sections, (("a", 0, 3), ("b", 2 * unit + 1, 1)))["b"][-1]


def plain_arrivals(units):
    return [plain_arrival(units, unit) for unit in range(len(units))]


def all_arrivals(many):
    """Return a dict from the arrivals of each road of so many units, as a tuple, to its units."""
    found = {}
    for letters in itertools.product("nw", repeat=many):
        units = "".join(letters)
        found[tuple(plain_arrivals(units))] = units
    return found


def first_wrong(known, items):
    """Return the index of the first item that none of the known arrivals has there, or None."""
    for index in range(len(items)):
        if not any(arrivals[:index + 1] == tuple(items[:index + 1]) for arrivals in known):
            return index
    return None


def plain_read(items):
    """Return the units that lead to items, or the index of the first item that no road has there.

    After each item that is not determined by those before it, all runs that may begin are tried.
    """
    many = len(items)
    units = ""
    for index, item in enumerate(items):
        choices = [units]
        if index == len(units):
            choices = [units + "w"]
            if not units.endswith("n"):
                # A run is followed by a wide unit, unless it ends with the road.
                for end in range(index + 1, many + 1):
                    choices.append((units + "n" * (end - index) + "w")[:many])
        found = []
        for choice in choices:
            if type(item) is int and plain_arrival(choice.ljust(many, "w"), index) == item:
                found.append(choice)
        if not found:
            return index
        units = found[0]
    return units
