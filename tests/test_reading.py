"""Roads that are read from arrivals (point 15 of the document)."""

import inspect
import itertools
import random
import unittest

from outcomes import outcome, raises
from plain_reading import all_arrivals, first_wrong, plain_arrivals, plain_read
from random_traffic import random_sections
from slowleaders.comparing import parting_cars
from slowleaders.driving import Drive
from slowleaders.errors import InvalidArrivals, InvalidNumber, InvalidRoad
from slowleaders.hidden import read_road, reading_arrivals, reading_cars
from slowleaders.roads import Road
from traffic_case import TrafficCase, example_road, outside
from wrong_values import NOT_INTEGERS

UNITS = outside(0, 499999)
NOT_LISTS = [None, True, False, 0, 5, "", "4", "narrow", (), (4, 9, 9), ((4, 9, 9),)]


def told_arrivals(units):
    """Return the arrivals of units by what point 15 says of them, for roads of any length."""
    arrivals = []
    for unit, letter in enumerate(units):
        if letter == "w":
            arrivals.append(2 * unit + 1 + len(units))
        else:
            end = (units + "w").index("w", unit)
            arrivals.append(3 * end + len(units) - end)
    return arrivals


class ReadingCase(TrafficCase):
    def assert_arrivals_index(self, index, arrivals):
        with self.assertRaises(InvalidArrivals) as caught:
            read_road(arrivals)
        self.assertEqual(caught.exception.index, index, arrivals)

    def assert_road_index(self, index, arrivals):
        with self.assertRaises(InvalidRoad) as caught:
            read_road(arrivals)
        self.assertEqual(caught.exception.index, index)


class ExamplesTest(ReadingCase):
    def test_reading(self):
        self.assertEqual(
            [reading_cars(4), list(reading_arrivals(Road(("wide", 1), ("narrow", 2))))],
            [(("a", 0, 3), ("b", 9, 1)), [4, 9, 9]],
        )

    def test_read_road(self):
        self.assertEqual(read_road([4, 9, 9]).sections, (("wide", 1), ("narrow", 2)))

    def test_invalid_arrivals(self):
        self.assert_arrivals_index(2, [4, 9, 8])


class InterfaceTest(ReadingCase):
    def test_parameters(self):
        for function, parameters in ((reading_cars, ["unit"]), (reading_arrivals, ["road"]), (read_road, ["arrivals"])):
            self.assertEqual(list(inspect.signature(function).parameters), parameters)
            self.assertEqual(function.__module__, "slowleaders.hidden")
        self.assertTrue(inspect.isgeneratorfunction(reading_arrivals))


class ReadingCarsTest(ReadingCase):
    def test_units(self):
        for unit, start in ((0, 1), (1, 3), (2, 5), (1187, 2375), (499998, 999997), (499999, 999999)):
            self.assertEqual(reading_cars(unit), (("a", 0, 3), ("b", start, 1)))

    def test_wrong_units(self):
        for unit in UNITS:
            with self.subTest(unit=unit), self.assertRaises(InvalidNumber):
                reading_cars(unit)

    def test_kinds_of_values(self):
        cars = reading_cars(7)
        self.assertEqual({type(value) for value in (cars, *cars)}, {tuple})
        self.assertEqual(cars, reading_cars(7))

    def test_cars_meet_in_the_middle_of_the_unit(self):
        # On a narrow road, b follows a from half a unit behind the beginning of the unit on.
        for unit in (0, 1, 5, 98):
            road = Road(("narrow", 99))
            drive = Drive(road, reading_cars(unit))
            self.assertEqual(drive("b"), 297)
            road = Road(*[("narrow", 1)] * 12)
            if unit < 12:
                ticks = Drive(road, reading_cars(unit))["b"]
                free = [2 * unit + 1 + place for place in range(13)]
                self.assertEqual(ticks, tuple(max(tick, 3 * place) for place, tick in enumerate(free)))
                self.assertEqual([tick == alone for tick, alone in zip(ticks, free)].index(False), unit + 1)


class ReadingArrivalsTest(ReadingCase):
    def test_one_unit(self):
        self.assertEqual(list(reading_arrivals(Road(("narrow", 1)))), [3])
        self.assertEqual(list(reading_arrivals(Road(("wide", 1)))), [2])

    def test_runs(self):
        self.assertEqual(list(reading_arrivals(Road.of_units("nnwwn"))), [9, 9, 10, 12, 15])
        self.assertEqual(list(reading_arrivals(Road.of_units("wnwnn"))), [6, 9, 10, 15, 15])
        self.assertEqual(list(reading_arrivals(Road(("narrow", 1), ("narrow", 2), ("wide", 1)))), [10, 10, 10, 11])

    def test_drives(self):
        source = random.Random(81)
        for _ in range(60):
            road = Road(*random_sections(source, 12, 9))
            arrivals = list(reading_arrivals(road))
            self.assertEqual(arrivals, [Drive(road, reading_cars(unit))("b") for unit in range(len(road))])
            self.assertEqual(arrivals, told_arrivals(road.units))
            self.assertEqual(arrivals, plain_arrivals(road.units))

    def test_free_and_held_cars(self):
        road = Road(("wide", 3), ("narrow", 2), ("wide", 4), ("narrow", 5))
        for unit, arrival in enumerate(reading_arrivals(road)):
            lost = Drive(road, reading_cars(unit)).losses()["b"]
            self.assertEqual(lost == 0, road[unit] == "wide")
            self.assertEqual(arrival, 2 * unit + 1 + len(road) + lost)

    def test_generator(self):
        arrivals = reading_arrivals(Road.of_units("wnn"))
        self.assertEqual([next(arrivals), next(arrivals), next(arrivals), next(arrivals, None)], [4, 9, 9, None])


class ReadRoadTest(ReadingCase):
    def test_one_unit(self):
        self.assertEqual(read_road([3]).sections, (("narrow", 1),))
        self.assertEqual(read_road([2]).sections, (("wide", 1),))
        for item in (-1, 0, 1, 4, 5, 6, 10 ** 30, *NOT_INTEGERS):
            self.assert_arrivals_index(0, [item])

    def test_longest_runs(self):
        road = Road(("narrow", 1), ("narrow", 2), ("wide", 2), ("wide", 1), ("narrow", 4))
        self.assertEqual(
            read_road(list(reading_arrivals(road))).sections, (("narrow", 3), ("wide", 3), ("narrow", 4))
        )

    def test_longest_roads(self):
        road = Road(*[(("narrow", "wide")[at % 2], 99) for at in range(12)])
        arrivals = list(reading_arrivals(road))
        self.assertEqual(len(arrivals), 1188)
        self.assertEqual(read_road(arrivals).sections, road.sections)
        for index in (0, 98, 99, 600, 1187):
            changed = list(arrivals)
            changed[index] += 1
            if index < 1187:
                self.assert_arrivals_index(index, changed)
            else:
                # The last unit may be a narrow one, but not in a road of 12 runs.
                self.assert_road_index(12, changed)
            changed[index] = None
            changed[-1] = None
            self.assert_arrivals_index(index, changed)

    def test_roads_that_are_too_long(self):
        # Such arrivals agree with some units, but these make no road of at most 12 runs up to 99.
        self.assert_road_index(0, told_arrivals("n" * 100))
        self.assert_road_index(1, told_arrivals("n" * 99 + "w" * 100))
        self.assert_road_index(2, told_arrivals("nw" + "n" * 101 + "wn" * 7))
        road = Road(*[("narrow", 99), ("narrow", 99)])
        self.assert_road_index(0, list(reading_arrivals(road)))
        self.assert_road_index(0, told_arrivals("w" * 2000))
        self.assert_road_index(0, told_arrivals("n" * 2000))

    def test_more_than_twelve_runs(self):
        self.assertEqual(len(read_road(told_arrivals("wn" * 6)).sections), 12)
        for units in ("wn" * 6 + "w", "nw" * 7, "wn" * 100):
            self.assert_road_index(12, told_arrivals(units))
            arrivals = told_arrivals(units)
            for index in (0, 11, 12, len(units) - 1):
                changed = list(arrivals)
                changed[index] = 0
                self.assert_arrivals_index(index, changed)

    def test_one_item_changed(self):
        source = random.Random(82)
        for _ in range(300):
            units = Road(*random_sections(source, 5, 5)).units
            items = told_arrivals(units)
            index = source.choice([0, len(items) // 2, len(items) - 1, source.randrange(len(items))])
            items[index] += source.choice([-3, -2, -1, 1, 2, 3])
            self.check(items)

    def check(self, items):
        expected = plain_read(items)
        if isinstance(expected, int):
            self.assert_arrivals_index(expected, items)
            return None
        found = outcome(read_road, items)
        if found[0] == "raises":
            self.assertEqual(found, outcome(Road.of_units, expected))
        else:
            self.assertEqual(found[1].units, expected)
            self.assertEqual(found[1].sections, Road.of_units(expected).sections)
        return expected

    def test_plain_reader(self):
        source = random.Random(83)
        found = []
        for _ in range(400):
            units = "".join(source.choices("nw", [source.random() + 0.1, 1], k=source.randint(1, 16)))
            items = told_arrivals(units)
            for _ in range(source.choice([0, 1, 1, 2])):
                wrong = [source.randint(0, 60), *NOT_INTEGERS, -1, len(items), 3 * len(items), 3 * len(items) + 1]
                items[source.randrange(len(items))] = source.choice(wrong)
            found.append(self.check(items))
        self.assertGreater(len([units for units in found if units]), 80)
        self.assertGreater(found.count(None), 80)

    def test_all_short_lists(self):
        for many in range(1, 5):
            known = all_arrivals(many)
            for items in itertools.product(range(many, 3 * many + 2), repeat=many):
                index = first_wrong(known, items)
                if index is None:
                    self.assertEqual(read_road(list(items)).units, known[items])
                else:
                    self.assert_arrivals_index(index, list(items))

    def test_all_short_roads(self):
        for many in range(1, 11):
            known = all_arrivals(many)
            self.assertEqual(len(known), 2 ** many)
            for arrivals, units in known.items():
                self.assertEqual(read_road(list(arrivals)).units, units)
                if many < 9:
                    for index in range(many):
                        for by in (-2, -1, 1, 2):
                            items = list(arrivals)
                            items[index] += by
                            self.assertEqual(outcome(read_road, items), self.expected(known, items))

    def expected(self, known, items):
        index = first_wrong(known, items)
        return outcome(Road.of_units, known[tuple(items)]) if index is None else raises("InvalidArrivals", index=index)

    def test_not_lists(self):
        for arrivals in NOT_LISTS:
            with self.subTest(arrivals=arrivals):
                self.assert_arrivals_index(0, arrivals)

    def test_no_items(self):
        self.assert_arrivals_index(0, [])

    def test_items_that_are_no_numbers(self):
        for wrong in NOT_INTEGERS:
            with self.subTest(wrong=wrong):
                for index in range(3):
                    items = [4, 9, 9]
                    items[index] = wrong
                    self.assert_arrivals_index(index, items)

    def test_passed_list(self):
        items = [4, 9, 9]
        road = read_road(items)
        self.assertEqual(items, [4, 9, 9])
        items.clear()
        self.assertEqual(road.units, "wnn")
        self.assertTrue(read_road([4, 9, 9]) == road)

    def test_equal_roads(self):
        source = random.Random(84)
        for _ in range(60):
            road = Road(*random_sections(source, 12, 8))
            read = read_road(list(reading_arrivals(road)))
            self.assertTrue(read == road)
            self.assertIsNone(parting_cars(read, road))
            self.assertEqual(read.sections, Road.of_units(road.units).sections)
        self.assertTrue(read_road(list(reading_arrivals(example_road()))) == example_road())


if __name__ == "__main__":
    unittest.main()
