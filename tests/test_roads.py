"""Roads: points 2 and 3 of the document."""

import itertools
import unittest

from slowleaders.errors import InvalidNumber, InvalidRoad, UnknownSection
from slowleaders.roads import Road
from wrong_values import NOT_INTEGERS, WRONG_SECTIONS

TWELVE = tuple(("narrow" if at % 3 else "wide", 8 * at + 3) for at in range(12))
KINDS = {"n": "narrow", "w": "wide"}


def example_road():
    return Road(("narrow", 10), ("wide", 5), ("narrow", 10))


def some_roads():
    return [
        example_road(),
        Road(("wide", 1)),
        Road(("narrow", 1)),
        Road(("wide", 99)),
        Road(("narrow", 99)),
        Road(("narrow", 4), ("narrow", 6), ("wide", 1), ("wide", 2)),
        Road(*TWELVE),
        Road(*[("narrow", 99)] * 12),
    ]


class RoadCase(unittest.TestCase):
    def assert_index(self, error, index, call, *arguments):
        with self.assertRaises(error) as caught:
            call(*arguments)
        self.assertEqual(caught.exception.index, index)


class ExamplesTest(RoadCase):
    def test_units(self):
        road = example_road()
        self.assertEqual(
            [len(road), road[9], road[10], road.units[8:13]], [25, "narrow", "wide", "nnwww"]
        )

    def test_signs(self):
        road = example_road()
        other = Road(("narrow", 4), ("narrow", 6)) + Road(("wide", 5), ("narrow", 10))
        self.assertEqual([road == other, "wide" in road, len(road * 2)], [True, True, 50])

    def test_invalid_road(self):
        self.assert_index(InvalidRoad, 0, Road, ("narrow", 0))

    def test_invalid_unit(self):
        with self.assertRaises(InvalidNumber):
            example_road()[25]

    def test_of_units(self):
        self.assertEqual(Road.of_units("nnw").sections, (("narrow", 2), ("wide", 1)))

    def test_widened(self):
        self.assertEqual(example_road().widened(2).sections[2], ("wide", 10))

    def test_unknown_section(self):
        self.assert_index(UnknownSection, 3, example_road().widened, 3)


class SectionsTest(RoadCase):
    def test_sections_and_units(self):
        road = Road(("narrow", 2), ("wide", 3), ("wide", 1), ("narrow", 1))
        self.assertEqual(
            road.sections, (("narrow", 2), ("wide", 3), ("wide", 1), ("narrow", 1))
        )
        self.assertEqual(road.units, "nnwwwwn")
        self.assertEqual(len(road), 7)

    def test_limits(self):
        self.assertEqual(Road(("narrow", 1)).units, "n")
        self.assertEqual(Road(("wide", 99)).units, "w" * 99)
        self.assertEqual(Road(*TWELVE).sections, TWELVE)
        self.assertEqual(len(Road(*[("wide", 99)] * 12)), 12 * 99)

    def test_every_kind_and_length(self):
        for kind, letter in (("narrow", "n"), ("wide", "w")):
            for length in range(1, 100):
                road = Road((kind, length))
                self.assertEqual((road.sections, road.units), (((kind, length),), letter * length))

    def test_no_sections(self):
        self.assert_index(InvalidRoad, 0, Road)

    def test_wrong_section(self):
        for wrong in WRONG_SECTIONS:
            with self.subTest(wrong=wrong):
                self.assert_index(InvalidRoad, 0, Road, wrong)
                self.assert_index(InvalidRoad, 1, Road, ("wide", 1), wrong)
                self.assert_index(InvalidRoad, 2, Road, ("wide", 1), ("wide", 1), wrong, ("wide", 2))

    def test_first_wrong_section(self):
        for first in range(12):
            for second in range(first, 12):
                sections = list(TWELVE)
                sections[first] = ("wide", 100)
                sections[second] = None
                self.assert_index(InvalidRoad, first, Road, *sections)

    def test_thirteenth_section(self):
        self.assert_index(InvalidRoad, 12, Road, *TWELVE, ("wide", 1))
        self.assert_index(InvalidRoad, 12, Road, *TWELVE, None)
        self.assert_index(InvalidRoad, 12, Road, *TWELVE, ("wide", 1), None)
        self.assert_index(InvalidRoad, 12, Road, *TWELVE, *TWELVE)
        self.assert_index(InvalidRoad, 11, Road, *TWELVE[:11], ("wide", 0), ("wide", 1))

    def test_passed_list_is_not_kept(self):
        sections = list(TWELVE)
        road = Road(*sections)
        units = road.units
        sections[0] = ("narrow", 50)
        sections.clear()
        self.assertEqual((road.sections, road.units, road[0]), (TWELVE, units, "wide"))

    def test_equal_values_again(self):
        for road in some_roads():
            self.assertEqual((road.sections, road.units), (road.sections, road.units))
            self.assertIsInstance(road.sections, tuple)
            self.assertIsInstance(road.units, str)


class OfUnitsTest(RoadCase):
    def test_all_short_strings(self):
        for length in range(1, 9):
            for letters in itertools.product("nw", repeat=length):
                units = "".join(letters)
                runs = itertools.groupby(units)
                sections = tuple((KINDS[letter], len(list(run))) for letter, run in runs)
                road = Road.of_units(units)
                self.assertEqual((road.sections, road.units), (sections, units))

    def test_longest_runs(self):
        road = Road(("narrow", 4), ("narrow", 6), ("wide", 1), ("wide", 98))
        self.assertEqual(Road.of_units(road.units).sections, (("narrow", 10), ("wide", 99)))

    def test_limits(self):
        self.assertEqual(Road.of_units("n" * 99).sections, (("narrow", 99),))
        self.assertEqual(Road.of_units("wn" * 6).sections, (("wide", 1), ("narrow", 1)) * 6)

    def test_empty_string(self):
        self.assert_index(InvalidRoad, 0, Road.of_units, "")

    def test_run_that_is_too_long(self):
        self.assert_index(InvalidRoad, 0, Road.of_units, "n" * 100)
        self.assert_index(InvalidRoad, 2, Road.of_units, "nw" + "n" * 100 + "w")
        self.assert_index(InvalidRoad, 1, Road.of_units, "n" + "w" * 100 + "n" * 100)

    def test_thirteenth_run(self):
        self.assert_index(InvalidRoad, 12, Road.of_units, "nw" * 6 + "n")
        self.assert_index(InvalidRoad, 12, Road.of_units, "nw" * 50)
        self.assert_index(InvalidRoad, 12, Road.of_units, "nw" * 6 + "n" * 100)
        self.assert_index(InvalidRoad, 3, Road.of_units, "nwn" + "w" * 100 + "nw" * 6)

    def test_other_letters(self):
        for units in ("x", "N", "W", "nnx", "xnn", "n w", "nw\n", " ", "narrow", "wide", "n\u0430w"):
            with self.subTest(units=units), self.assertRaises(InvalidRoad):
                Road.of_units(units)

    def test_other_kinds(self):
        for units in (None, True, False, 0, 5, (), [], ("n",), ["n", "w"], (("wide", 1),), [None]):
            with self.subTest(units=units), self.assertRaises(InvalidRoad):
                Road.of_units(units)


class UnitsTest(RoadCase):
    def test_every_unit(self):
        for road in some_roads():
            self.assertEqual(len(road), sum(length for _, length in road.sections))
            self.assertEqual(
                [road[unit] for unit in range(len(road))], [KINDS[letter] for letter in road.units]
            )

    def test_missing_units(self):
        for road in some_roads():
            for unit in (-1, -len(road), len(road), len(road) + 1, 10 ** 30, -10 ** 30):
                with self.subTest(unit=unit), self.assertRaises(InvalidNumber):
                    road[unit]

    def test_not_a_number(self):
        for unit in NOT_INTEGERS:
            with self.subTest(unit=unit), self.assertRaises(InvalidNumber):
                example_road()[unit]

    def test_kinds(self):
        narrow, wide = Road(("narrow", 3), ("narrow", 1)), Road(("wide", 1))
        both = Road(("narrow", 1), ("narrow", 2), ("wide", 1))
        self.assertEqual(
            [[kind in road for road in (narrow, wide, both)] for kind in ("narrow", "wide")],
            [[True, False, True], [False, True, True]],
        )

    def test_other_kinds(self):
        others = [*NOT_INTEGERS, "n", "w", "narrowwide", "Wide", 1, 3, ("narrow", 3), ["wide"], ("wide",)]
        others.remove("narrow")
        for road in some_roads():
            for kind in others:
                self.assertFalse(kind in road)

    def test_not_walked(self):
        road = example_road()
        with self.assertRaises(TypeError):
            iter(road)
        with self.assertRaises(TypeError):
            list(road)
        with self.assertRaises(TypeError):
            for _ in road:
                pass
        with self.assertRaises(TypeError):
            _, *_ = road


class SumTest(RoadCase):
    def test_sum_keeps_all_sections(self):
        road = Road(("narrow", 4), ("wide", 1)) + Road(("wide", 2), ("narrow", 6))
        self.assertEqual(road.sections, (("narrow", 4), ("wide", 1), ("wide", 2), ("narrow", 6)))
        self.assertEqual(road.units, "nnnnwwwnnnnnn")

    def test_every_sum(self):
        for first in range(1, 13):
            for second in range(1, 13):
                road, other = Road(*TWELVE[:first]), Road(*TWELVE[-second:])
                if first + second <= 12:
                    self.assertEqual((road + other).sections, TWELVE[:first] + TWELVE[-second:])
                else:
                    self.assert_index(InvalidRoad, 12, lambda: road + other)
                self.assertEqual(road.sections, TWELVE[:first])
                self.assertEqual(other.sections, TWELVE[-second:])

    def test_every_product(self):
        for many in range(1, 13):
            road = Road(*TWELVE[:many])
            for times in range(1, 13):
                if many * times <= 12:
                    self.assertEqual((road * times).sections, TWELVE[:many] * times)
                else:
                    self.assert_index(InvalidRoad, 12, lambda: road * times)
                self.assertEqual(road.sections, TWELVE[:many])

    def test_product_with_wrong_number(self):
        for road in (Road(("wide", 1)), Road(*TWELVE)):
            for times in (0, 13, -1, 14, 10 ** 30, *NOT_INTEGERS):
                with self.subTest(times=times), self.assertRaises(InvalidNumber):
                    road * times

    def test_results_are_roads(self):
        road = Road(("narrow", 2), ("wide", 1))
        for result in (road + road, road * 2, road.widened(0), Road.of_units("nw")):
            self.assertIsInstance(result, Road)
        self.assertEqual(road + road, road * 2)
        self.assertEqual(road * 1, road)


class EqualTest(RoadCase):
    def test_same_units(self):
        parts = Road(("narrow", 1), ("narrow", 9), ("wide", 2), ("wide", 3), ("narrow", 10))
        self.assertTrue(example_road() == parts)
        self.assertFalse(example_road() != parts)
        self.assertTrue(parts == Road.of_units(parts.units))

    def test_other_units(self):
        others = [
            Road(("narrow", 10), ("wide", 5), ("narrow", 9)),
            Road(("narrow", 10), ("wide", 6), ("narrow", 9)),
            Road(("wide", 10), ("narrow", 5), ("wide", 10)),
            Road(("narrow", 10), ("wide", 5)),
            Road(("narrow", 25)),
            Road(("wide", 25)),
        ]
        for other in others:
            self.assertFalse(example_road() == other)
            self.assertTrue(example_road() != other)

    def test_anything_else(self):
        road = example_road()
        others = [
            road.sections, list(road.sections), road.units, [road.units], (road,), [road], len(road), "",
            *NOT_INTEGERS,
        ]
        for other in others:
            self.assertFalse(road == other)
            self.assertFalse(other == road)
            self.assertTrue(road != other)


class WidenedTest(RoadCase):
    def test_every_choice(self):
        road = Road(("narrow", 3), ("wide", 2), ("narrow", 1), ("narrow", 4))
        for many in range(5):
            for indexes in itertools.product(range(4), repeat=many):
                expected = list(road.sections)
                for index in indexes:
                    expected[index] = ("wide", expected[index][1])
                self.assertEqual(road.widened(*indexes).sections, tuple(expected))
        self.assertEqual(road.units, "nnnwwnnnnn")

    def test_last_section_of_twelve(self):
        self.assertEqual(Road(*TWELVE).widened(11).sections, TWELVE[:11] + (("wide", 91),))

    def test_missing_sections(self):
        for index in (3, 4, -1, -3, 10 ** 30, -10 ** 30):
            self.assert_index(UnknownSection, index, example_road().widened, index)
            self.assert_index(UnknownSection, index, example_road().widened, 0, 2, index, 1)

    def test_first_missing_section(self):
        self.assert_index(UnknownSection, 9, example_road().widened, 1, 9, 7, -1)
        self.assert_index(UnknownSection, -1, example_road().widened, -1, True, 9)

    def test_not_a_number(self):
        for index in NOT_INTEGERS:
            with self.subTest(index=index):
                with self.assertRaises(UnknownSection):
                    example_road().widened(index)
                with self.assertRaises(UnknownSection):
                    example_road().widened(0, 1, index)


class FormTest(unittest.TestCase):
    def test_defined_where_the_interface_lists_it(self):
        self.assertEqual(Road.__module__, "slowleaders.roads")
        signs = ["__len__", "__getitem__", "__contains__", "__add__", "__mul__", "__eq__"]
        for name in ["__init__", "sections", "units", "of_units", "widened", *signs]:
            self.assertIn(name, vars(Road))


if __name__ == "__main__":
    unittest.main()
