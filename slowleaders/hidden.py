"""Paces that are not known, and roads that are read from arrivals."""

from slowleaders.checks import (
    LATEST_START, LATEST_TICK, MOST_CARS, SLOWEST_PACE, check_cars, check_new_name, is_number,
)
from slowleaders.comparing import fast_arrival, two_cars
from slowleaders.driving import Drive
from slowleaders.errors import Contradiction, InvalidArrivals, InvalidNumber, TooManyCars, UnknownCar
from slowleaders.roads import Road

LAST_UNIT = 499999


def _are_in_order(order, names):
    """Tell whether names stand in an order one behind the other, whatever is between them."""
    at = [order.index(name) for name in names]
    return all([one < other for one, other in zip(at, at[1:])])


class HiddenPace:
    """A car whose pace is not known, beside other cars, and what was observed of it."""

    def __init__(self, road, cars, name, start):
        check_cars(cars)
        check_new_name(cars, name)
        if not is_number(start, 0, LATEST_START):
            raise InvalidNumber("a start is from 0 to 1000000")
        if len(cars) == MOST_CARS:
            raise TooManyCars("there are 10 cars besides")
        self._name = name
        self._last_place = len(road.sections)
        self._candidates = list(range(1, SLOWEST_PACE + 1))
        self._drives = {
            pace: Drive(road, cars + ((name, start, pace),)) for pace in self._candidates
        }
        self._history = []

    @property
    def candidates(self):
        """The ascending list of the paces that remain."""
        return list(self._candidates)

    @property
    def history(self):
        """The list of the observations."""
        return list(self._history)

    def _check_place(self, place):
        if not is_number(place, 0, self._last_place):
            raise InvalidNumber("the road has no such place")

    def _accept(self, remaining, observation):
        """Keep an observation and the candidates that it leaves, and return their number."""
        if len(remaining) == 0:
            raise Contradiction("no pace agrees with all observations")
        self._candidates = remaining
        self._history = self._history + [observation]
        return len(remaining)

    def see(self, place, tick):
        """Record the tick at which the car passes a place, and return how many paces remain."""
        self._check_place(place)
        if not is_number(tick, 0, LATEST_TICK):
            raise InvalidNumber("a tick is from 0 to 1000000000")
        remaining = [
            pace for pace in self._candidates if self._drives[pace][self._name][place] == tick
        ]
        return self._accept(remaining, ("see", place, tick))

    def see_order(self, place, *names):
        """Record that cars are in this order at a place, and return how many paces remain."""
        self._check_place(place)
        for name in names:
            if name not in self._drives[SLOWEST_PACE]:
                raise UnknownCar(name)
        remaining = [
            pace for pace in self._candidates
            if _are_in_order(self._drives[pace].order_at(place), names)
        ]
        return self._accept(remaining, ("see_order", place, *names))

    def possible_ticks(self, place):
        """Return the ascending list of the ticks at which the car can pass a place."""
        self._check_place(place)
        return sorted({self._drives[pace][self._name][place] for pace in self._candidates})

    def best_place(self):
        """Return the first place at which the car can pass at the most different ticks."""
        many = [len(self.possible_ticks(place)) for place in range(self._last_place + 1)]
        return many.index(max(many))


def reading_cars(unit):
    """Return the two cars that read a unit: the fast one reaches the slow one in its middle."""
    if not is_number(unit, 0, LAST_UNIT):
        raise InvalidNumber("a unit is from 0 to 499999")
    return two_cars(2 * unit + 1)


def reading_arrivals(road):
    """Yield the arrival of the fast one of the cars that read a unit, for each unit of a road."""
    for unit in range(len(road)):
        start = reading_cars(unit)[1][1]
        yield fast_arrival(road, start)


def _can_arrive(arrival, unit, units, end):
    """Tell whether some road of so many units has this arrival at a unit.

    The last narrow run that is known from the units before ends at the unit `end`.
    """
    if not is_number(arrival, units, 3 * units):
        return False
    held = arrival - units
    is_wide = held == 2 * unit + 1
    if unit < end:
        return held == 2 * end
    if unit == end:
        # A narrow unit here would have made the run longer.
        return is_wide
    return is_wide or ((held & 1) == 0 and held > 2 * unit)


def read_road(arrivals):
    """Return the road that leads to the list of all arrivals of the cars that read its units."""
    if not isinstance(arrivals, list) or len(arrivals) == 0:
        raise InvalidArrivals(0)
    units = ""
    end = -1
    for unit, arrival in enumerate(arrivals):
        if not _can_arrive(arrival, unit, len(arrivals), end):
            raise InvalidArrivals(unit)
        # Free cars arrive after odd numbers of ticks more than there are units, held ones, which
        # follow up to the end of a run, after twice the number of units up to there.
        if arrival == len(arrivals) + 2 * unit + 1:
            units += "w"
        else:
            units += "n"
            end = (arrival - len(arrivals)) // 2
    return Road.of_units(units)
