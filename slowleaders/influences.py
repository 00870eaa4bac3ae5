"""Influences: what one car less would change, for whom, and along which chain."""

from slowleaders.checks import check_cars, check_known
from slowleaders.driving import Drive


def _without(cars, name):
    """Return the cars but the one of a name."""
    return tuple([car for car in cars if car[0] != name])


def _changed(cars, drive, less):
    """Return the names of the cars in both drives of which some tick differs."""
    return [name for name, start, pace in cars if name in less and drive[name] != less[name]]


def possible_hinderers(road, cars, name):
    """Return the list of the slower cars that start ahead of a car, in the order at place 0."""
    check_cars(cars)
    check_known(cars, name)
    paces = {known: pace for known, start, pace in cars}
    order = Drive(road, cars).order_at(0)
    ahead = order[:order.index(name)]
    return [other for other in ahead if paces[other] > paces[name]]


def real_hinderers(road, cars, name):
    """Return the list of the cars without which some tick of a car would differ."""
    check_cars(cars)
    check_known(cars, name)
    drive = Drive(road, cars)
    hinderers = []
    for other, start, pace in cars:
        if other != name:
            less = Drive(road, _without(cars, other))
            if less[name] != drive[name]:
                hinderers.append(other)
    return hinderers


def changed_without(road, cars, name):
    """Return a dict from each car that changes without a certain car to both its arrivals.

    These are a tuple of the arrival with the certain car and the one without it.
    """
    check_cars(cars)
    check_known(cars, name)
    drive = Drive(road, cars)
    less = Drive(road, _without(cars, name))
    return {other: (drive(other), less(other)) for other in _changed(cars, drive, less)}


def unhappy_removals(road, cars):
    """Yield a tuple (car, other car) for each car without which another one arrives later."""
    drive = Drive(road, cars)
    for name, start, pace in cars:
        less = Drive(road, _without(cars, name))
        for other in _changed(cars, drive, less):
            if less(other) > drive(other):
                yield (name, other)


def chain_between(road, cars, name, other):
    """Return the chain along which a car that is not there changes another one, or None."""
    check_cars(cars)
    check_known(cars, name)
    check_known(cars, other)
    drive = Drive(road, cars)
    less = Drive(road, _without(cars, name))
    changed = _changed(cars, drive, less)
    if other not in changed:
        return None
    sections = range(len(road.sections))
    leaders = {}
    for car in changed:
        leaders[car] = [drive.leader(car, section) for section in sections]
        leaders[car] += [less.leader(car, section) for section in sections]
    return _shortest_chain(leaders, name, other)


def _shortest_chain(leaders, first, last):
    """Return the first one of the shortest chains between two cars.

    The leaders are a dict from each car that changes, in the order of the tuple.
    """
    chains = {first: [first]}
    ends = [first]
    # This ends, since a chain leads to each car that changes.
    while last not in chains:
        longer = {}
        # The ends are in the order of their chains, so the first chain that reaches a car counts.
        for end in ends:
            for car in leaders:
                if end in leaders[car] and car not in chains and car not in longer:
                    longer[car] = chains[end] + [car]
        chains.update(longer)
        ends = list(longer)
    return chains[last]
