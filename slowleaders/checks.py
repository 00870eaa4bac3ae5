"""Checks of arguments that several files of the package need."""

from slowleaders.errors import InvalidCars, InvalidName, UnknownCar

MOST_CARS = 10
LONGEST_NAME = 8
LATEST_START = 1000000
SLOWEST_PACE = 60
LATEST_TICK = 1000000000


def is_number(value, least, most):
    """Tell whether a value is an integer within limits."""
    # True and False would pass as 1 and 0.
    return isinstance(value, int) and not isinstance(value, bool) and least <= value <= most


def is_name(value):
    """Tell whether a value has the form of a car's name."""
    if not isinstance(value, str) or not 1 <= len(value) <= LONGEST_NAME:
        return False
    return all(["a" <= letter <= "z" for letter in value])


def is_car(value):
    """Tell whether a value is a car: a tuple of a name, a start and a pace."""
    if not isinstance(value, tuple) or len(value) != 3:
        return False
    name, start, pace = value
    return is_name(name) and is_number(start, 0, LATEST_START) and is_number(pace, 1, SLOWEST_PACE)


def check_cars(cars):
    """Raise InvalidCars unless the argument is a tuple of cars with different names."""
    if not isinstance(cars, tuple):
        raise InvalidCars(0)
    names = []
    for index, car in enumerate(cars):
        if index == MOST_CARS or not is_car(car) or car[0] in names:
            raise InvalidCars(index)
        names.append(car[0])


def check_known(cars, name):
    """Raise UnknownCar unless one of the cars has this name."""
    if name not in [known for known, start, pace in cars]:
        raise UnknownCar(name)


def check_new_name(cars, name):
    """Raise InvalidName unless this is a name that none of the cars has."""
    if not is_name(name) or name in [known for known, start, pace in cars]:
        raise InvalidName("a new name is one to eight letters a to z")
