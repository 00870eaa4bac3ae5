"""Positions: how many units a car has driven at a tick."""

from math import gcd

from slowleaders.driving import Drive


def _ahead_inside(drive, section, name, tick):
    """Return the list of the cars ahead of a car that are still in its section at a tick."""
    order = drive.order_at(section)
    return [other for other in order[:order.index(name)] if drive(other, section + 1) > tick]


def _least(fractions):
    """Return the least one of fractions with positive denominators."""
    least = fractions[0]
    for numerator, denominator in fractions:
        if numerator * least[1] < least[0] * denominator:
            least = (numerator, denominator)
    return least


def position_at(road, cars, name, tick):
    """Return how many units a car has driven at a tick, a fraction in lowest terms."""
    drive = Drive(road, cars)
    passed = [place for place, passing in enumerate(drive[name]) if passing <= tick]
    if not passed:
        return (0, 1)
    section = passed[-1]
    units = sum([length for kind, length in road.sections[:section]])
    if section == len(road.sections):
        return (units, 1)
    limits = [name]
    if road.sections[section][0] == "narrow":
        limits += _ahead_inside(drive, section, name, tick)
    paces = {car: pace for car, start, pace in cars}
    # Whoever limits a car ahead is ahead of this one, too; so it is enough to compare free cars.
    numerator, denominator = _least([(tick - drive(car, section), paces[car]) for car in limits])
    numerator += units * denominator
    common = gcd(numerator, denominator)
    return (numerator // common, denominator // common)
