"""Wide enough: point 9 of the document."""

import unittest

from slowleaders.driving import Drive
from slowleaders.errors import UnknownSection
from slowleaders.roads import Road
from slowleaders.widening import fewest_widened, first_loser, harmful_widenings, latest_start
from traffic_case import CARS, TEN, TEN_NAMES, TrafficCase, example_road, outside

LOSSES = outside(0, 10 ** 6)
DEADLINES = outside(0, 10 ** 7)
MISSING = (-1, -3, 3, 4, 10 ** 30, -10 ** 30)
WIDE = Road(("wide", 10), ("wide", 99), ("wide", 1))
# The slow car holds up each of the others in another section; they lose 40, 70 and 70 ticks.
LONG_ROAD = Road(("narrow", 10), ("wide", 5), ("narrow", 10), ("wide", 5), ("narrow", 10))
LONG_CARS = (("slow", 0, 10), ("one", 50, 1), ("two", 155, 1), ("three", 290, 1))
# In the first narrow section, tom holds up bob, who holds up ann later if he is free.
HARMED = (("tom", 0, 20), ("bob", 0, 10), ("ann", 150, 1))


class ExamplesTest(TrafficCase):
    def test_fewest_widened_and_first_loser(self):
        road = example_road()
        self.assertEqual(
            [fewest_widened(road, CARS, 20), first_loser(road, CARS, 20), first_loser(road, CARS, 20, 0)],
            [[0], "ann", None],
        )

    def test_invalid_number(self):
        self.assert_number(first_loser, example_road(), CARS, -1)

    def test_harmful_widenings(self):
        self.assertEqual(harmful_widenings(example_road(), CARS), [])

    def test_latest_start(self):
        road = example_road()
        self.assertEqual(
            [latest_start(road, CARS, "ann", 100), latest_start(road, CARS, "tom", 149)], [49, None]
        )


class FirstLoserTest(TrafficCase):
    def test_losses_up_to_the_one_told(self):
        road = example_road()
        self.assertEqual(Drive(road, CARS).losses(), {"tom": 0, "ann": 35, "bob": 10})
        self.assertEqual(
            [first_loser(road, CARS, most) for most in (0, 9, 10, 34, 35, 36, 10 ** 6)],
            ["ann", "ann", "ann", "ann", None, None, None],
        )

    def test_order_of_the_tuple(self):
        cars = (("bob", 10, 4), ("tom", 0, 6), ("ann", 5, 2))
        self.assertEqual(
            [first_loser(example_road(), cars, most) for most in (0, 9, 10, 34, 35)],
            ["bob", "bob", "ann", "ann", None],
        )

    def test_sections(self):
        self.assertEqual(Drive(LONG_ROAD, LONG_CARS).losses(), {"slow": 0, "one": 40, "two": 70, "three": 70})
        for sections, loser in (
            ((), "one"), ((0,), "two"), ((0, 2), "three"), ((0, 4), "two"), ((2, 4), "one"),
            ((0, 2, 4), None), ((4, 2, 0), None),
        ):
            self.assertEqual(first_loser(LONG_ROAD, LONG_CARS, 0, *sections), loser)

    def test_sections_that_are_wide_already(self):
        self.assertEqual(first_loser(LONG_ROAD, LONG_CARS, 0, 1), "one")
        self.assertEqual(first_loser(LONG_ROAD, LONG_CARS, 0, 3, 0, 1), "two")

    def test_sections_that_are_given_twice(self):
        self.assertEqual(first_loser(LONG_ROAD, LONG_CARS, 0, 0, 0), "two")
        self.assertEqual(first_loser(LONG_ROAD, LONG_CARS, 0, *[4, 2, 0] * 7), None)

    def test_road_is_not_changed(self):
        road = example_road()
        first_loser(road, CARS, 0, 0, 2)
        fewest_widened(road, CARS, 0)
        harmful_widenings(road, CARS)
        self.assertEqual(road.sections, example_road().sections)
        self.assertEqual(first_loser(road, CARS, 20), "ann")

    def test_no_cars_and_one_car(self):
        for cars in ((), CARS[:1]):
            for most in (0, 10 ** 6):
                self.assertIsNone(first_loser(example_road(), cars, most))
                self.assertIsNone(first_loser(example_road(), cars, most, 2))

    def test_ten_cars(self):
        road = Road(("narrow", 99))
        losses = Drive(road, TEN).losses()
        self.assertEqual([losses[name] for name in TEN_NAMES], [95 * at for at in range(10)])
        self.assertEqual(
            [first_loser(road, TEN, most) for most in (0, 94, 95, 854, 855)],
            [TEN_NAMES[1], TEN_NAMES[1], TEN_NAMES[2], TEN_NAMES[9], None],
        )
        self.assertIsNone(first_loser(road, TEN, 0, 0))

    def test_great_losses(self):
        road = Road(*[("narrow", 99)] * 12)
        cars = (("tom", 0, 60), ("ann", 1, 1))
        loss = 60 * 1188 - (1188 + 1)
        self.assertEqual(first_loser(road, cars, loss - 1), "ann")
        self.assertIsNone(first_loser(road, cars, loss))
        self.assertIsNone(first_loser(road, cars, 10 ** 6))


class FewestWidenedTest(TrafficCase):
    def test_losses(self):
        self.assertEqual(
            [fewest_widened(LONG_ROAD, LONG_CARS, most) for most in (0, 39, 40, 69, 70, 10 ** 6)],
            [[0, 2, 4], [0, 2, 4], [2, 4], [2, 4], [], []],
        )
        self.assertEqual(
            [fewest_widened(example_road(), CARS, most) for most in (0, 34, 35)], [[0], [0], []]
        )

    def test_first_one_of_several_lists(self):
        # Ann loses 55; nothing if the first section is wide, and 25 if the second one is.
        road, cars = Road(("narrow", 10), ("narrow", 10)), (("tom", 0, 4), ("ann", 5, 1))
        self.assertEqual(
            [first_loser(road, cars, 25, *sections) for sections in ((), (0,), (1,))], ["ann", None, None]
        )
        self.assertEqual(fewest_widened(road, cars, 25), [0])

    def test_shorter_lists_come_first(self):
        # To widen the last section is enough, and so are others from the first section on.
        road = Road(("narrow", 1), ("narrow", 1), ("narrow", 20))
        cars = (("tom", 0, 9), ("ann", 0, 1))
        self.assertIsNone(first_loser(road, cars, 16, 2))
        self.assertEqual(first_loser(road, cars, 15, 2), "ann")
        self.assertEqual(fewest_widened(road, cars, 16), [0])
        road = Road(("narrow", 1), ("wide", 9), ("narrow", 1), ("narrow", 20))
        cars = (("tom", 0, 9), ("ann", 0, 1), ("bob", 92, 10), ("eve", 93, 1))
        self.assertEqual(fewest_widened(road, cars, 8), [3])
        self.assertEqual(first_loser(road, cars, 8, 0), "eve")
        self.assertIsNone(first_loser(road, cars, 8, 0, 3))

    def test_roads_without_narrow_sections(self):
        for cars in ((), CARS, TEN):
            self.assertEqual(fewest_widened(WIDE, cars, 0), [])
            self.assertIsNone(first_loser(WIDE, cars, 0))
            self.assertEqual(harmful_widenings(WIDE, cars), [])

    def test_no_cars_and_one_car(self):
        for cars in ((), CARS[:1]):
            self.assertEqual(fewest_widened(example_road(), cars, 0), [])

    def test_all_sections(self):
        # The slow car holds up one car in each of the twelve sections.
        road = Road(*[("narrow", 1)] * 12)
        cars = (("slow", 0, 60), *[("abcdefghi"[at], 60 * at + 50 - at, 1) for at in range(9)])
        self.assertEqual(fewest_widened(road, cars, 0), list(range(9)))
        self.assertEqual(fewest_widened(Road(("narrow", 99)), TEN, 0), [0])


class HarmfulWideningsTest(TrafficCase):
    def test_widening_that_lets_a_car_arrive_later(self):
        self.assertEqual(Drive(example_road(), HARMED)("ann"), 215)
        self.assertEqual(Drive(example_road().widened(0), HARMED)("ann"), 250)
        self.assertEqual(harmful_widenings(example_road(), HARMED), [(0, "ann")])

    def test_order_of_the_tuple(self):
        cars = (("kim", 151, 1), *HARMED)
        self.assertEqual(harmful_widenings(example_road(), cars), [(0, "kim"), (0, "ann")])
        cars = (HARMED[2], *HARMED[:2], ("kim", 151, 1))
        self.assertEqual(harmful_widenings(example_road(), cars), [(0, "ann"), (0, "kim")])

    def test_sections_come_before_cars(self):
        road = Road(("narrow", 3), ("narrow", 7), ("wide", 5), ("narrow", 8))
        cars = (("a", 15, 6), ("b", 52, 9), ("c", 15, 5), ("kim", 35, 4), ("tom", 44, 3))
        arrivals = [
            [Drive(wider, cars)(name) for name in ("kim", "tom")]
            for wider in (road, road.widened(0), road.widened(1))
        ]
        self.assertEqual(
            [[later > now for later, now in zip(row, arrivals[0])] for row in arrivals[1:]],
            [[True, True], [True, False]],
        )
        self.assertEqual(harmful_widenings(road, cars), [(0, "kim"), (0, "tom"), (1, "kim")])

    def test_no_cars_and_one_car(self):
        for cars in ((), CARS[:1]):
            self.assertEqual(harmful_widenings(example_road(), cars), [])


class LatestStartTest(TrafficCase):
    def test_next_start_is_too_late(self):
        # With the start 50, ann enters the last section in the same tick as bob, and behind him.
        for start, arrival in ((48, 98), (49, 99), (50, 120), (51, 120)):
            cars = (CARS[0], ("ann", start, 2), CARS[2])
            self.assertEqual(Drive(example_road(), cars)("ann"), arrival)
        for deadline, start in ((98, 48), (99, 49), (119, 49)):
            self.assertEqual(latest_start(example_road(), CARS, "ann", deadline), start)

    def test_first_and_last_deadline(self):
        for cars in (CARS, CARS[:1], TEN):
            for name, _, _ in cars:
                self.assertIsNone(latest_start(example_road(), cars, name, 0))
                self.assertEqual(latest_start(example_road(), cars, name, 10 ** 7), 10 ** 6)

    def test_last_start(self):
        for cars in (CARS, CARS[:1]):
            self.assertEqual(latest_start(example_road(), cars, "tom", 10 ** 6 + 151), 10 ** 6)
            self.assertEqual(latest_start(example_road(), cars, "tom", 10 ** 6 + 150), 10 ** 6)
            self.assertEqual(latest_start(example_road(), cars, "tom", 10 ** 6 + 149), 10 ** 6 - 1)

    def test_first_start(self):
        for cars in (CARS, CARS[:1]):
            self.assertIsNone(latest_start(example_road(), cars, "tom", 149))
            self.assertEqual(latest_start(example_road(), cars, "tom", 150), 0)
            self.assertEqual(latest_start(example_road(), cars, "tom", 151), 1)

    def test_car_that_must_start_before_another_one(self):
        # Behind tom, who starts at 50, ann leaves at 110.
        road, tom, ann = Road(("narrow", 10)), ("tom", 50, 6), ("ann", 900, 2)
        for deadline, start in ((19, None), (20, 0), (69, 49), (109, 49), (110, 90), (111, 91)):
            self.assertEqual(latest_start(road, (tom, ann), "ann", deadline), start)

    def test_equal_starts_keep_the_order_of_the_tuple(self):
        road, tom, ann = Road(("narrow", 10)), ("tom", 50, 6), ("ann", 0, 2)
        self.assertEqual(latest_start(road, (ann, tom), "ann", 109), 50)
        self.assertEqual(latest_start(road, (tom, ann), "ann", 109), 49)

    def test_own_start_does_not_count(self):
        for start in (0, 7, 10 ** 6):
            cars = (CARS[0], ("ann", start, 2), CARS[2])
            self.assertEqual(latest_start(example_road(), cars, "ann", 100), 49)


class ErrorsTest(TrafficCase):
    def test_invalid_cars(self):
        road = example_road()
        for most in (0, -1, None):
            for section in (0, 3, None):
                self.check_invalid_cars(lambda cars: first_loser(road, cars, most, section))
            self.check_invalid_cars(lambda cars: fewest_widened(road, cars, most))
            self.check_invalid_cars(lambda cars: latest_start(road, cars, "eve", most))
            self.check_invalid_cars(lambda cars: latest_start(road, cars, "tom", most))
        self.check_invalid_cars(lambda cars: harmful_widenings(road, cars))

    def test_losses(self):
        for most in LOSSES:
            with self.subTest(most=most):
                for road in (example_road(), WIDE):
                    for cars in (CARS, ()):
                        self.assert_number(first_loser, road, cars, most)
                        self.assert_number(first_loser, road, cars, most, 0)
                        self.assert_number(first_loser, road, cars, most, 3)
                        self.assert_number(first_loser, road, cars, most, None)
                        self.assert_number(fewest_widened, road, cars, most)

    def test_unknown_sections(self):
        road = example_road()
        for section in MISSING:
            for cars in (CARS, ()):
                self.assert_section(section, first_loser, road, cars, 0, section)
                self.assert_section(section, first_loser, road, cars, 10 ** 6, 0, section, 99)
                self.assert_section(99, first_loser, road, cars, 10 ** 6, 0, 99, section)

    def test_sections_that_are_not_numbers(self):
        for section in (None, True, False, "0", (), (0,), [0], [[0]]):
            with self.subTest(section=section), self.assertRaises(UnknownSection):
                first_loser(example_road(), CARS, 0, section)

    def test_unknown_cars(self):
        road = example_road()
        for deadline in (100, -1, None):
            self.check_unknown_cars(lambda name: latest_start(road, CARS, name, deadline))
        self.assert_unknown("tom", latest_start, road, (), "tom", 5)

    def test_deadlines(self):
        for deadline in DEADLINES:
            with self.subTest(deadline=deadline):
                for name, _, _ in CARS:
                    self.assert_number(latest_start, example_road(), CARS, name, deadline)


class ValuesTest(TrafficCase):
    def test_returned_values_may_be_changed(self):
        road = example_road()
        for _ in range(2):
            fewest = fewest_widened(road, CARS, 20)
            harmful = harmful_widenings(road, HARMED)
            none = fewest_widened(road, CARS, 35)
            self.assertEqual([fewest, harmful, none], [[0], [(0, "ann")], []])
            self.assertEqual([type(found) for found in (fewest, harmful, harmful[0])], [list, list, tuple])
            fewest.append(1)
            harmful.clear()
            none.append(2)

    def test_equal_calls(self):
        for _ in range(2):
            self.assertEqual(first_loser(LONG_ROAD, LONG_CARS, 0, 0), "two")
            self.assertEqual(latest_start(example_road(), CARS, "ann", 100), 49)


if __name__ == "__main__":
    unittest.main()
