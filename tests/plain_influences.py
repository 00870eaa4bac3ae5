"""One car less by the plain words of the points 7 and 8, as a second computation for the tests."""

import itertools

from plain_driving import plain_drive, plain_ticks


def without(cars, name):
    """Return the cars but one."""
    return tuple(car for car in cars if car[0] != name)


def plain_possible_hinderers(cars, name):
    """Return the slower cars that start ahead of a car, by looking at all pairs of cars."""
    at = [car[0] for car in cars].index(name)
    _, start, pace = cars[at]
    ahead = [
        car for other_at, car in enumerate(cars) if car[1] < start or (car[1] == start and other_at < at)
    ]
    return [car[0] for car in sorted(ahead, key=lambda car: car[1]) if car[2] > pace]


def plain_changes(sections, cars, name):
    """Return a dict from each car whose ticks differ without a car to its ticks with and without it."""
    with_all = plain_ticks(sections, cars)
    left = plain_ticks(sections, without(cars, name))
    return {
        other: (with_all[other], left[other]) for other in left if with_all[other] != left[other]
    }


def plain_changed(sections, cars, name):
    """Return the arrivals of the changed cars with and without a car."""
    changes = plain_changes(sections, cars, name)
    return {other: (ticks[-1], left[-1]) for other, (ticks, left) in changes.items()}


def plain_real_hinderers(sections, cars, name):
    """Return the cars without which some tick of a car differs."""
    return [
        other for other, _, _ in cars if other != name and name in plain_changes(sections, cars, other)
    ]


def plain_removals(sections, cars):
    """Return all tuples of a car and another one that arrives later without it."""
    return [
        (name, other)
        for name, _, _ in cars
        for other, (arrival, left) in plain_changed(sections, cars, name).items()
        if left > arrival
    ]


def is_chain(chain, leaders):
    """Tell whether each car but the first one has the one before it as its leader somewhere."""
    return all(
        any(led.get(car) == ahead for led in leaders) for ahead, car in zip(chain, chain[1:])
    )


def plain_chain(sections, cars, name, other):
    """Return the first one of all sequences of changed cars that is a chain; shorter ones come first."""
    changed = list(plain_changes(sections, cars, name))
    if other not in changed:
        return None
    leaders = plain_drive(sections, cars)[2] + plain_drive(sections, without(cars, name))[2]
    between = [car for car in changed if car != other]
    for many in range(len(changed)):
        for cars_between in itertools.permutations(between, many):
            chain = [name, *cars_between, other]
            if is_chain(chain, leaders):
                return chain
    raise AssertionError("no chain leads to a changed car")
