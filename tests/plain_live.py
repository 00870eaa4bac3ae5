"""Live roads by the plain words of the points 12 and 13, as a second computation for the tests.

It keeps all states as lists of sections and cars, and a number that tells which one is in effect.
"""

from copy import deepcopy
from fractions import Fraction

from outcomes import raises, returns
from plain_driving import plain_drive, plain_ticks

ARGUMENTS = {"join": 3, "remove": 1, "set_kind": 2}
LETTERS = set("abcdefghijklmnopqrstuvwxyz")


def is_integer(value):
    return type(value) is int


def is_plain_name(value):
    return type(value) is str and len(value) in range(1, 9) and set(value) <= LETTERS


def plain_arrivals(sections, cars):
    """Return a list of tuples of each car and its arrival."""
    ticks = plain_ticks(sections, tuple(cars))
    return [(name, ticks[name][-1]) for name, _, _ in cars]


def plain_fault(sections, cars, operation):
    """Return the error that an operation raises, or None."""
    word, *values = operation
    names = [name for name, _, _ in cars]
    if word == "join":
        name, start, pace = values
        if not is_plain_name(name) or name in names:
            return raises("InvalidName")
        earliest = 0
        for _, other_start, _ in cars:
            earliest = other_start
        if not is_integer(start) or start < earliest or start > 1000000:
            return raises("InvalidNumber")
        if not is_integer(pace) or pace not in range(1, 61):
            return raises("InvalidNumber")
        return raises("TooManyCars") if len(cars) > 9 else None
    if word == "remove":
        return None if values[0] in names else raises("UnknownCar", name=values[0])
    section, kind = values
    if not is_integer(section) or section not in range(len(sections)):
        return raises("UnknownSection", index=section)
    return None if kind == "narrow" or kind == "wide" else raises("InvalidKind")


def is_plain_operation(value):
    """Tell whether a value has the form of an operation."""
    if type(value) is not tuple or value == ():
        return False
    return any(value[0] == word and len(value) == 1 + many for word, many in ARGUMENTS.items())


class PlainLive:
    """A second live road; its methods return outcomes instead of raising errors."""

    def __init__(self, sections):
        self.states = [(list(sections), [])]
        self.operations = []
        self.at = 0
        self.kept = None

    def sections(self):
        return tuple(self.states[self.at][0])

    def cars(self):
        return tuple(self.states[self.at][1])

    def history(self):
        return self.operations[:self.at]

    def execute(self, operation):
        """Execute an operation that has the right form."""
        fault = plain_fault(*self.states[self.at], operation)
        if fault is not None:
            return fault
        before = self.states[self.at]
        after = deepcopy(before)
        self.change(*after, operation)
        self.states = self.states[:self.at + 1] + [after]
        self.operations = self.operations[:self.at] + [operation]
        self.at += 1
        old = dict(plain_arrivals(*before))
        new = plain_arrivals(*after)
        if operation[0] == "join":
            return returns(new[-1][1])
        return returns({name: (old[name], tick) for name, tick in new if tick != old[name]})

    def change(self, sections, cars, operation):
        word, *values = operation
        if word == "join":
            cars.append(tuple(values))
        elif word == "remove":
            cars[:] = [car for car in cars if car[0] != values[0]]
        else:
            sections[values[0]] = (values[1], sections[values[0]][1])

    def apply(self, *operations):
        for index, operation in enumerate(operations):
            if not is_plain_operation(operation):
                return raises("InvalidOperation", index=index)
        before = (self.states, self.operations, self.at)
        results = []
        for operation in operations:
            result = self.execute(operation)
            if result[0] == "raises":
                self.states, self.operations, self.at = before
                return result
            results.append(result[1])
        return returns(results)

    def arrivals_after(self, *operations):
        if self.kept is not None:
            return raises("AlreadyOpen")
        self.enter()
        result = self.apply(*operations)
        if result[0] == "returns":
            result = returns(dict(plain_arrivals(*self.states[self.at])))
        self.leave()
        return result

    def undo(self):
        if self.at == 0:
            return returns(False)
        self.at -= 1
        return returns(True)

    def redo(self):
        if self.at == len(self.operations):
            return returns(False)
        self.at += 1
        return returns(True)

    def enter(self):
        if self.kept is not None:
            return raises("AlreadyOpen")
        self.kept = (self.states, self.operations, self.at)
        return returns(None)

    def leave(self):
        self.states, self.operations, self.at = self.kept
        self.kept = None

    def position(self, name, tick):
        if name not in [other for other, _, _ in self.cars()]:
            return raises("UnknownCar", name=name)
        if not is_integer(tick) or tick < 0 or tick > 10 ** 9:
            return raises("InvalidNumber")
        units = plain_position(self.sections(), self.cars(), name, tick)
        return returns((units.numerator, units.denominator))


def driven_in(order, entered, left, paces, name, tick):
    """Return the units that a car has driven in a narrow section: not more than any car ahead."""
    driven = Fraction(tick - entered[name], paces[name])
    for other in order[:order.index(name)]:
        if left[other] > tick:
            driven = min(driven, driven_in(order, entered, left, paces, other, tick))
    return driven


def plain_position(sections, cars, name, tick):
    """Return the units that a car has driven at a tick, as a fraction."""
    ticks, orders, _ = plain_drive(sections, cars)
    paces = {other: pace for other, _, pace in cars}
    units = Fraction(0)
    for at, (kind, length) in enumerate(sections):
        entered, left = ticks[at], ticks[at + 1]
        if tick < entered[name]:
            return units
        if tick < left[name]:
            order = orders[at] if kind == "narrow" else [name]
            return units + driven_in(order, entered, left, paces, name, tick)
        units += length
    return units
