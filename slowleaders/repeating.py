"""Traffic that comes again in each round."""

from slowleaders.checks import check_cars, check_known, is_number
from slowleaders.driving import drive_all
from slowleaders.errors import InvalidNumber

SHORTEST_PERIOD = 50
LONGEST_PERIOD = 1000000
LAST_ROUND = 1000000000000000000


def _check_period(cars, period):
    """Raise InvalidNumber unless a period is within its limits and greater than all starts."""
    least = max([SHORTEST_PERIOD] + [start + 1 for name, start, pace in cars])
    if not is_number(period, least, LONGEST_PERIOD):
        raise InvalidNumber("a period is from 50 to 1000000 and greater than all starts")


def _latest_change(road, cars, period):
    """Return a round from which on all rounds are the same; that may be so earlier, too."""
    starts = [start for name, start, pace in cars]
    paces = [pace for name, start, pace in cars]
    # Without the cars of round 0, each later round would be as the one before it is. These cars
    # change others along chains of leaders only, and nobody in such a chain passes a place later
    # than the slowest pace allows from the latest start of round 0 on. A car that follows would
    # pass it earlier than that, but not before the fastest pace allows from its own start on.
    spread = max(starts) - min(starts) + (max(paces) - min(paces)) * len(road)
    return spread // period


def _ticks_after(begin, number, cars, places):
    """Return a dict from each car of a round to its ticks at all places, counted from a beginning."""
    return {
        name: tuple([ticks[(number, name)] - begin for ticks in places]) for name, start, pace in cars
    }


def _first_rounds(road, cars, period, many):
    """Return the first rounds: for each one a dict from each car to its ticks at all places."""
    starts = {}
    paces = {}
    for number in range(many):
        for name, start, pace in cars:
            starts[(number, name)] = number * period + start
            paces[(number, name)] = pace
    # Cars never change those that start ahead, so the later rounds may be left out.
    places = drive_all(road.sections, starts, paces)[0]
    return [_ticks_after(number * period, number, cars, places) for number in range(many)]


def _different_rounds(road, cars, period):
    """Return the first rounds, up to the one from which on all rounds are the same."""
    if not cars:
        return [{}]
    rounds = _first_rounds(road, cars, period, _latest_change(road, cars, period) + 1)
    while len(rounds) > 1 and rounds[-2] == rounds[-1]:
        rounds.pop()
    return rounds


class Repeated:
    """Traffic that comes again: in each round, the same cars start one period later."""

    def __init__(self, road, cars, period):
        check_cars(cars)
        _check_period(cars, period)
        self._cars = cars
        self._period = period
        self._last_place = len(road.sections)
        self._rounds = _different_rounds(road, cars, period)

    @property
    def settled_round(self):
        """The first round from which on all rounds are the same."""
        return len(self._rounds) - 1

    def __call__(self, name, number, place=None):
        check_known(self._cars, name)
        if not is_number(number, 0, LAST_ROUND):
            raise InvalidNumber("there is no such round")
        if place is None:
            place = self._last_place
        if not is_number(place, 0, self._last_place):
            raise InvalidNumber("the road has no such place")
        ticks = self._rounds[min(number, self.settled_round)][name]
        return number * self._period + ticks[place]
