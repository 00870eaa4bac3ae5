"""Hidden paces by the plain words of point 14, as a second computation for the tests.

It tries all paces from 1 to 60 against all observations each time it is asked.
"""

from outcomes import raises, returns
from plain_driving import plain_drive
from plain_live import is_integer, is_plain_name

PACES = range(1, 61)


def plain_hidden_fault(cars, name, start):
    """Return the error for a further car beside valid cars, or None."""
    if not is_plain_name(name) or name in [other for other, _, _ in cars]:
        return raises("InvalidName")
    if not is_integer(start) or start < 0 or start > 1000000:
        return raises("InvalidNumber")
    return raises("TooManyCars") if len(cars) > 9 else None


def stand_so(order, names):
    """Tell whether names stand in an order one behind the other: walk along it and tick them off."""
    wanted = list(names)
    for name in order:
        if wanted and name == wanted[0]:
            wanted.pop(0)
    return wanted == []


class PlainHidden:
    """A second hidden pace; its methods return outcomes instead of raising errors."""

    def __init__(self, sections, cars, name, start):
        self.places = range(len(sections) + 1)
        self.names = [other for other, _, _ in cars] + [name]
        self.observations = []
        self.driven = {}
        for pace in PACES:
            ticks, orders, _ = plain_drive(sections, (*cars, (name, start, pace)))
            self.driven[pace] = ([passed[name] for passed in ticks], orders)

    def agrees(self, pace, observation):
        ticks, orders = self.driven[pace]
        word, place, *told = observation
        return ticks[place] == told[0] if word == "see" else stand_so(orders[place], told)

    def candidates(self):
        return [pace for pace in PACES if all(self.agrees(pace, told) for told in self.observations)]

    def is_place(self, place):
        return is_integer(place) and place in self.places

    def observe(self, observation):
        word, place, *told = observation
        if not self.is_place(place):
            return raises("InvalidNumber")
        if word == "see":
            if not is_integer(told[0]) or told[0] < 0 or told[0] > 10 ** 9:
                return raises("InvalidNumber")
        else:
            for name in told:
                if name not in self.names:
                    return raises("UnknownCar", name=name)
        self.observations.append(observation)
        many = len(self.candidates())
        if many == 0:
            self.observations.pop()
            return raises("Contradiction")
        return returns(many)

    def possible_ticks(self, place):
        if not self.is_place(place):
            return raises("InvalidNumber")
        ticks = []
        for pace in self.candidates():
            if self.driven[pace][0][place] not in ticks:
                ticks.append(self.driven[pace][0][place])
        ticks.sort()
        return returns(ticks)

    def best_place(self):
        best, most = None, 0
        for place in self.places:
            many = len(self.possible_ticks(place)[1])
            if many > most:
                best, most = place, many
        return best
