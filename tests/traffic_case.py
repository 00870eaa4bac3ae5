"""The road and the cars of the document's examples, and what several tests ask for."""

import unittest

from slowleaders.errors import InvalidCars, InvalidNumber, UnknownCar, UnknownSection
from slowleaders.roads import Road
from wrong_values import NOT_INTEGERS, NOT_NAMES, WRONG_CARS

CARS = (("tom", 0, 6), ("ann", 5, 2), ("bob", 10, 4))
# On a narrow road, all of them follow the first one.
TEN = tuple(("car" + letter, 4 * at, 60 - at) for at, letter in enumerate("abcdefghij"))
TEN_NAMES = [name for name, _, _ in TEN]
UNKNOWN_NAMES = ["eve", "to", "tomm", "TOM", "tom ", *NOT_NAMES]
NO_CARS = [None, True, False, 0, 5, "", "tom", [], list(CARS), [None]]


def example_road():
    return Road(("narrow", 10), ("wide", 5), ("narrow", 10))


def outside(least, most):
    """Return what is not an integer within limits."""
    return [least - 1, most + 1, -10 ** 30, 10 ** 30, *NOT_INTEGERS]


class TrafficCase(unittest.TestCase):
    def assert_cars_index(self, index, call, *arguments):
        with self.assertRaises(InvalidCars) as caught:
            call(*arguments)
        self.assertEqual(caught.exception.index, index)

    def assert_unknown(self, name, call, *arguments):
        with self.assertRaises(UnknownCar) as caught:
            call(*arguments)
        self.assertEqual(caught.exception.name, name)

    def assert_section(self, index, call, *arguments):
        with self.assertRaises(UnknownSection) as caught:
            call(*arguments)
        self.assertEqual(caught.exception.index, index)

    def assert_number(self, call, *arguments):
        with self.assertRaises(InvalidNumber):
            call(*arguments)

    def check_invalid_cars(self, call):
        """Call something with all kinds of wrong cars, and expect InvalidCars."""
        for cars in NO_CARS:
            with self.subTest(cars=cars):
                self.assert_cars_index(0, call, cars)
        for wrong in WRONG_CARS:
            with self.subTest(wrong=wrong):
                self.assert_cars_index(0, call, (wrong,))
                self.assert_cars_index(2, call, (*CARS[:2], wrong, CARS[0]))
        self.assert_cars_index(1, call, (CARS[0], CARS[0]))
        self.assert_cars_index(3, call, (*CARS, ("ann", 7, 7), None))
        self.assert_cars_index(10, call, (*TEN, ("tom", 0, 1)))
        self.assert_cars_index(10, call, (*TEN, TEN[0]))

    def check_unknown_cars(self, call):
        """Call something with names that no car has, and expect UnknownCar."""
        for name in UNKNOWN_NAMES:
            with self.subTest(name=name):
                self.assert_unknown(name, call, name)
