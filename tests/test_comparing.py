"""Roads that are alike: point 10 of the document, and what parting cars tell of units."""

import random
import unittest

from plain_driving import plain_ticks
from random_traffic import random_cars, random_sections
from slowleaders.comparing import parting_cars
from slowleaders.driving import Drive
from slowleaders.roads import Road
from traffic_case import CARS, TEN, TrafficCase, example_road


def two_cars(start):
    return (("a", 0, 3), ("b", start, 1))


def plain_parting_cars(road, other):
    """Return the parting cars of two roads by looking at their units alone.

    The car b reaches a in the middle of a unit. It arrives at different ticks if this unit, or the
    end of the narrow run around it, is not the same on both roads.
    """
    if road == other:
        return None
    if len(road) != len(other):
        return (("a", 0, 1),)
    unit = [one == two for one, two in zip(road, other)].index(False)
    while unit and road[unit - 1] == "n":
        unit -= 1
    return two_cars(2 * unit + 1)


def runs(units):
    return 1 + sum(one != two for one, two in zip(units, units[1:]))


def cut(source, units):
    """Return a road of units, with at most 12 sections that are not the longest runs."""
    sections = [[kind, length] for kind, length in Road.of_units(units).sections]
    while len(sections) < 12 and source.random() < 0.8:
        at = source.randrange(len(sections))
        kind, length = sections[at]
        if length > 1:
            first = source.randint(1, length - 1)
            sections[at:at + 1] = [[kind, first], [kind, length - first]]
    return Road(*[tuple(section) for section in sections])


class ExamplesTest(TrafficCase):
    def test_parting_cars(self):
        road = example_road()
        other = Road(("narrow", 9), ("wide", 6), ("narrow", 10))
        self.assertEqual(
            [parting_cars(road, other), parting_cars(road, road * 2), parting_cars(road, road)],
            [(("a", 0, 3), ("b", 1, 1)), (("a", 0, 1),), None],
        )


class PartingCarsTest(TrafficCase):
    def check(self, units, other, start):
        for one, two in ((units, other), (other, units)):
            roads = Road.of_units(one), Road.of_units(two)
            self.assertEqual(parting_cars(*roads), two_cars(start))
            for odd in range(1, start + 1, 2):
                arrivals = [Drive(road, two_cars(odd))("b") for road in roads]
                self.assertEqual(arrivals[0] != arrivals[1], odd == start)

    def test_equal_units(self):
        road = Road(("narrow", 4), ("wide", 3), ("narrow", 2))
        for other in (
            Road(("narrow", 4), ("wide", 3), ("narrow", 2)),
            Road(("narrow", 1), ("narrow", 3), ("wide", 3), ("narrow", 2)),
            Road(("narrow", 3), ("narrow", 1), ("wide", 1), ("wide", 2), ("narrow", 1), ("narrow", 1)),
        ):
            self.assertIsNone(parting_cars(road, other))
            self.assertIsNone(parting_cars(other, road))
            self.assertIsNone(parting_cars(other, other))

    def test_different_lengths(self):
        roads = [Road(("narrow", length)) for length in (1, 2, 98, 99)]
        roads += [Road(("wide", 3)), Road(("narrow", 99), ("wide", 1)), Road(*[("wide", 99)] * 12)]
        for road in roads:
            for other in roads:
                if len(road) != len(other):
                    self.assertEqual(parting_cars(road, other), (("a", 0, 1),))

    def test_one_unit(self):
        self.check("n", "w", 1)

    def test_unit_at_the_beginning(self):
        self.check("nwww", "wwww", 1)
        self.check("nnnn", "wnnn", 1)
        self.check("nwnw", "wwnw", 1)

    def test_unit_in_the_middle(self):
        self.check("wwwww", "wwnww", 5)
        self.check("nnnnn", "nnwnn", 1)
        self.check("wnnww", "wnnnw", 3)
        self.check("wnnwn", "wnnnn", 3)
        self.check("nwwwn", "nwnwn", 5)

    def test_unit_at_the_end(self):
        self.check("wwww", "wwwn", 7)
        self.check("nnnn", "nnnw", 1)
        self.check("nwnn", "nwnw", 5)
        self.check("nwwn", "nwww", 7)

    def test_several_units(self):
        self.check("nwnw", "wnwn", 1)
        self.check("wwnwnn", "wwwnww", 5)
        self.check("wnwnww", "wnwwwn", 7)

    def test_long_roads(self):
        road = Road(*[("wide", 99)] * 12)
        self.assertEqual(parting_cars(road, Road(*[("wide", 99)] * 11, ("narrow", 99))), two_cars(2 * 1089 + 1))
        road = Road(*[("wide", 99)] * 11, ("wide", 98))
        other = Road(*[("wide", 99)] * 10, ("wide", 98), ("narrow", 99))
        self.assertEqual(parting_cars(road, other), two_cars(2 * 1088 + 1))
        self.assertEqual(parting_cars(Road(("narrow", 99)), Road(("narrow", 98), ("wide", 1))), two_cars(1))

    def test_random_roads(self):
        source = random.Random(31)
        for _ in range(300):
            units = Road(*random_sections(source, 8, 6)).units
            other = list(units)
            for _ in range(source.randint(1, 3)):
                at = source.randrange(len(units))
                other[at] = "w" if other[at] == "n" else "n"
            other = "".join(other)
            if max(runs(units), runs(other)) <= 12:
                roads = cut(source, units), cut(source, other)
                self.assertEqual(parting_cars(*roads), plain_parting_cars(units, other), (units, other))
                self.check_cars(*roads)

    def check_cars(self, road, other):
        cars = parting_cars(road, other)
        if cars is not None:
            last = cars[-1][0]
            self.assertNotEqual(Drive(road, cars)(last), Drive(other, cars)(last))
            arrivals = [plain_ticks(one.sections, cars)[last][-1] for one in (road, other)]
            self.assertNotEqual(arrivals[0], arrivals[1])

    def test_returned_values(self):
        for other in (example_road() * 2, example_road().widened(2)):
            cars = parting_cars(example_road(), other)
            self.assertEqual(cars, parting_cars(example_road(), other))
            self.assertEqual({type(value) for value in (cars, *cars)}, {tuple})


class EqualRoadsTest(TrafficCase):
    def test_equal_roads_carry_cars_alike(self):
        source = random.Random(32)
        for _ in range(300):
            units = Road(*random_sections(source, 8, 5)).units
            roads = cut(source, units), cut(source, units)
            self.assertTrue(roads[0] == roads[1])
            self.assertIsNone(parting_cars(*roads))
            for cars in ((), CARS, TEN, random_cars(source, 10, 40, 12), random_cars(source, 10, 400, 60)):
                arrivals = [[Drive(road, cars)(name) for name, _, _ in cars] for road in roads]
                self.assertEqual(arrivals[0], arrivals[1], (roads[0].sections, roads[1].sections, cars))

    def test_only_equal_roads_are_alike(self):
        source = random.Random(33)
        for _ in range(200):
            roads = [Road(*random_sections(source, 3, 2)) for _ in range(2)]
            self.assertEqual(parting_cars(*roads) is None, roads[0] == roads[1])
            self.assertEqual(parting_cars(*roads) is None, roads[0].units == roads[1].units)


class UnitsTest(TrafficCase):
    def test_two_cars_tell_the_kind_of_each_unit(self):
        source = random.Random(34)
        for _ in range(100):
            road = Road(*random_sections(source, 12, 9))
            read = ""
            for unit in range(len(road)):
                start = 2 * unit + 1
                held_up = Drive(road, two_cars(start)).losses()["b"] > 0
                read += "n" if held_up else "w"
                self.assertEqual(road[unit], "narrow" if held_up else "wide")
            self.assertEqual(read, road.units)
            self.assertTrue(Road.of_units(read) == road)
            self.assertIsNone(parting_cars(Road.of_units(read), road))

    def test_roads_that_are_put_together_from_units(self):
        source = random.Random(35)
        for _ in range(100):
            units = "".join(source.choice("nw") for _ in range(source.randint(2, 12)))
            road = Road.of_units(units)
            kinds = [("narrow" if letter == "n" else "wide", 1) for letter in units]
            added = Road(kinds[0])
            for kind in kinds[1:]:
                added = added + Road(kind)
            for other in (Road(*kinds), added, Road(*[(road[unit], 1) for unit in range(len(road))])):
                self.assertTrue(road == other)
                self.assertIsNone(parting_cars(road, other))

    def test_widened_roads(self):
        source = random.Random(36)
        for _ in range(100):
            sections = random_sections(source, 8, 9)
            road = Road(*sections)
            for at, (kind, _) in enumerate(sections):
                self.assertEqual(parting_cars(road, road.widened(at)) is None, kind == "wide")
            narrow = [at for at, (kind, _) in enumerate(sections) if kind == "narrow"]
            self.assertIsNone(parting_cars(road.widened(*narrow), Road.of_units("w" * len(road))))


if __name__ == "__main__":
    unittest.main()
