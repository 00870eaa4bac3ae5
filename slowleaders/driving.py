"""Drives: what happens if cars drive on a road."""

from slowleaders.checks import check_cars, is_number
from slowleaders.errors import InvalidNumber, UnknownCar


def _in_order(names, ticks):
    """Return the names in the order of their ticks; for equal ticks, their order stays."""
    return sorted(names, key=lambda name: ticks[name])


def _follow(order, free):
    """Return the ticks at which cars leave a narrow section, and the leaders of those that follow.

    The cars are told in their order, with the ticks at which each one would leave if it were free.
    """
    left = {}
    leaders = {}
    ahead = None
    for name in order:
        left[name] = free[name]
        if ahead is not None and free[name] < left[ahead]:
            left[name] = left[ahead]
            # All cars between a car and its leader follow this leader as well.
            leaders[name] = leaders.get(ahead, ahead)
        ahead = name
    return left, leaders


def drive_all(sections, starts, paces):
    """Return the ticks and the orders of all cars at all places, and the leaders in all sections.

    Starts and paces are dicts with one item for each car; cars with equal starts are in the order
    of the starts. Cars are any keys, and there may be any number of them.
    """
    ticks = [starts]
    orders = [_in_order(list(starts), starts)]
    leaders = []
    for kind, length in sections:
        order = orders[-1]
        left = {car: ticks[-1][car] + paces[car] * length for car in order}
        led = {}
        if kind == "wide":
            order = _in_order(order, left)
        else:
            left, led = _follow(order, left)
        ticks.append(left)
        orders.append(order)
        leaders.append(led)
    return ticks, orders, leaders


class Drive:
    """What happens if cars drive on a road."""

    def __init__(self, road, cars):
        check_cars(cars)
        self._sections = road.sections
        self._paces = {name: pace for name, start, pace in cars}
        starts = {name: start for name, start, pace in cars}
        # Ticks and orders are kept for each place, leaders for each section.
        self._ticks, self._orders, self._leaders = drive_all(road.sections, starts, self._paces)

    def _check_car(self, name):
        if name not in self:
            raise UnknownCar(name)

    def _check_place(self, place):
        if not is_number(place, 0, len(self._sections)):
            raise InvalidNumber("the road has no such place")

    def _check_section(self, section):
        if not is_number(section, 0, len(self._sections) - 1):
            raise InvalidNumber("the road has no such section")

    def __getitem__(self, at):
        self._check_car(at)
        return tuple([ticks[at] for ticks in self._ticks])

    def __call__(self, name, place=None):
        self._check_car(name)
        if place is None:
            place = len(self._sections)
        self._check_place(place)
        return self._ticks[place][name]

    def __contains__(self, x):
        # Lists cannot be looked up in a dict.
        return isinstance(x, str) and x in self._paces

    def __len__(self):
        return len(self._paces)

    def __iter__(self):
        raise TypeError("drives are not walked")

    def order_at(self, place):
        """Return the list of all cars in the order at a place."""
        self._check_place(place)
        return list(self._orders[place])

    def leader(self, name, section):
        """Return the leader of a car in a section, or None."""
        self._check_car(name)
        self._check_section(section)
        return self._leaders[section].get(name)

    def rows_of(self, section):
        """Return the list of all rows in a section, in the order at its end."""
        self._check_section(section)
        rows = []
        for name in self._orders[section + 1]:
            if name in self._leaders[section]:
                rows[-1].append(name)
            else:
                rows.append([name])
        return rows

    def overtakings(self):
        """Yield a tuple (section, car, other car) for each car that overtakes another one."""
        # Narrow sections yield nothing, since the order does not change in them.
        for section in range(len(self._sections)):
            before = self._orders[section]
            after = self._orders[section + 1]
            for at, name in enumerate(after):
                for other in before[:before.index(name)]:
                    if other in after[at + 1:]:
                        yield (section, name, other)

    def losses(self):
        """Return a dict from each car to the ticks that it arrives later than it would alone."""
        units = sum([length for kind, length in self._sections])
        starts = self._ticks[0]
        arrivals = self._ticks[-1]
        return {
            name: arrivals[name] - starts[name] - pace * units
            for name, pace in self._paces.items()
        }
