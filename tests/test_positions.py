"""Positions on live roads (point 12 of the document)."""

import unittest
from fractions import Fraction

from live_case import live_with, short_road
from slowleaders.errors import InvalidNumber, UnknownCar
from slowleaders.live import LiveRoad
from slowleaders.roads import Road
from traffic_case import CARS, TEN, TrafficCase, example_road, outside
from wrong_values import NOT_NAMES

TICKS = outside(0, 10 ** 9)


class ExamplesTest(TrafficCase):
    def test_position(self):
        live = live_with(short_road(), (("a", 0, 3), ("b", 10, 1)))
        self.assertEqual(
            [live.position("b", 12), live.position("b", 20), live.position("a", 31)],
            [(2, 1), (20, 3), (31, 3)],
        )


class PositionTest(TrafficCase):
    def check(self, live, name, positions):
        found = [live.position(name, tick) for tick in positions]
        self.assertEqual(found, list(positions.values()))

    def test_before_and_at_the_start(self):
        live = live_with(short_road(), (("a", 7, 3),))
        self.check(live, "a", {0: (0, 1), 6: (0, 1), 7: (0, 1), 8: (1, 3), 9: (2, 3), 10: (1, 1)})

    def test_at_places_and_beside_them(self):
        live = live_with(example_road(), (("a", 0, 4),))
        self.check(live, "a", {
            39: (39, 4), 40: (10, 1), 41: (41, 4), 59: (59, 4), 60: (15, 1), 61: (61, 4), 99: (99, 4), 100: (25, 1),
        })

    def test_after_the_arrival(self):
        live = live_with(example_road(), CARS)
        for name, arrival in (("tom", 150), ("ann", 90), ("bob", 120)):
            self.assertNotEqual(live.position(name, arrival - 1), (25, 1))
            self.check(live, name, {arrival: (25, 1), arrival + 1: (25, 1), 10 ** 9: (25, 1)})

    def test_lowest_terms(self):
        live = live_with(Road(("wide", 99)), (("a", 0, 60),))
        self.check(live, "a", {
            1: (1, 60), 2: (1, 30), 6: (1, 10), 7: (7, 60), 45: (3, 4), 60: (1, 1), 61: (61, 60), 90: (3, 2),
        })

    def test_behind_a_car_that_is_still_in_the_section(self):
        live = live_with(Road(("narrow", 10)), (("a", 0, 3), ("b", 10, 1)))
        # The car b reaches a at the tick 15, in the middle of the unit 4.
        self.check(live, "b", {10: (0, 1), 14: (4, 1), 15: (5, 1), 16: (16, 3), 29: (29, 3), 30: (10, 1)})

    def test_behind_a_car_that_has_just_left(self):
        live = live_with(Road(("narrow", 10), ("wide", 5)), (("a", 0, 3), ("b", 21, 1)))
        # It would leave at the tick 31, one later than a.
        self.check(live, "b", {29: (8, 1), 30: (9, 1), 31: (10, 1), 32: (11, 1)})
        live = live_with(Road(("narrow", 10), ("narrow", 5)), (("a", 0, 3), ("b", 20, 1)))
        # It reaches a at the end of the section, and follows in the next one only.
        self.check(live, "b", {29: (9, 1), 30: (10, 1), 31: (31, 3), 44: (44, 3), 45: (15, 1)})

    def test_slow_car_behind_one_that_has_just_left(self):
        live = live_with(Road(("narrow", 10)), (("a", 0, 1), ("b", 0, 5)))
        self.check(live, "b", {9: (9, 5), 10: (2, 1), 11: (11, 5), 49: (49, 5), 50: (10, 1)})

    def test_behind_several_cars(self):
        live = live_with(Road(("narrow", 10)), (("a", 0, 20), ("b", 5, 7), ("c", 10, 1), ("d", 11, 2)))
        # The car c follows b from the tick 11 on, and both a later.
        self.check(live, "b", {7: (2, 7), 8: (2, 5), 9: (9, 20), 100: (5, 1)})
        self.check(live, "c", {10: (0, 1), 11: (11, 20), 100: (5, 1), 199: (199, 20), 200: (10, 1)})
        self.check(live, "d", {11: (0, 1), 12: (1, 2), 13: (13, 20), 200: (10, 1)})

    def test_behind_a_car_that_limits_only_for_a_while(self):
        # The car b is in front until it has followed a; c is behind both.
        live = live_with(Road(("narrow", 20)), (("a", 0, 6), ("b", 30, 2), ("c", 31, 1)))
        self.check(live, "c", {32: (1, 1), 33: (3, 2), 34: (2, 1), 44: (7, 1), 45: (15, 2), 46: (23, 3), 60: (10, 1)})

    def test_equal_starts(self):
        live = live_with(Road(("narrow", 4), ("wide", 4)), (("a", 5, 9), ("b", 5, 1)))
        self.check(live, "b", {5: (0, 1), 6: (1, 9), 41: (4, 1), 42: (5, 1), 45: (8, 1)})
        self.check(live, "a", {5: (0, 1), 6: (1, 9), 41: (4, 1), 42: (37, 9), 77: (8, 1)})

    def test_slow_cars_do_not_limit_in_wide_sections(self):
        live = live_with(Road(("wide", 10)), (("a", 0, 60), ("b", 1, 1)))
        self.check(live, "b", {2: (1, 1), 10: (9, 1), 11: (10, 1)})

    def test_cars_in_other_sections_do_not_limit(self):
        live = live_with(Road(("wide", 5), ("narrow", 5)), (("a", 0, 60), ("b", 1, 1)))
        # The car b overtakes a in the wide section.
        self.check(live, "b", {6: (5, 1), 7: (6, 1), 11: (10, 1)})
        live = live_with(Road(("narrow", 5), ("narrow", 5)), (("a", 0, 60), ("b", 299, 1)))
        self.check(live, "b", {299: (0, 1), 303: (4, 1), 304: (5, 1), 305: (61, 12), 600: (10, 1)})

    def test_cars_behind_do_not_limit(self):
        live = live_with(Road(("narrow", 10)), (("a", 0, 2), ("b", 1, 60), ("c", 2, 60)))
        self.check(live, "a", {1: (1, 2), 3: (3, 2), 19: (19, 2), 20: (10, 1)})

    def test_after_other_operations(self):
        live = live_with(short_road(), (("a", 0, 3), ("b", 10, 1)))
        live.set_kind(0, "wide")
        self.assertEqual(live.position("b", 20), (10, 1))
        live.undo()
        self.assertEqual(live.position("b", 20), (20, 3))
        live.remove("a")
        self.assertEqual(live.position("b", 19), (9, 1))
        self.assert_unknown("a", live.position, "a", 19)
        with live:
            live.undo()
            self.assertEqual(live.position("b", 20), (20, 3))
        self.assertEqual(live.position("b", 20), (10, 1))

    def test_late_starts(self):
        live = live_with(Road(("narrow", 99)), (("a", 10 ** 6, 60), ("b", 10 ** 6, 1)))
        for name in "ab":
            self.check(live, name, {
                10 ** 6 - 1: (0, 1), 10 ** 6: (0, 1), 10 ** 6 + 1: (1, 60), 10 ** 6 + 5940: (99, 1), 10 ** 9: (99, 1),
            })

    def test_nobody_overtakes_in_narrow_sections(self):
        live = live_with(Road(("narrow", 9)), TEN)
        for tick in range(600):
            found = [Fraction(*live.position(name, tick)) for name, _, _ in TEN]
            self.assertEqual(found, sorted(found, reverse=True))

    def test_kinds_of_values(self):
        live = live_with(example_road(), CARS)
        for tick in (0, 10, 33, 60, 77, 500):
            position = live.position("bob", tick)
            self.assertIs(type(position), tuple)
            self.assertEqual([type(number) for number in position], [int, int])


class ErrorsTest(TrafficCase):
    def test_unknown_cars(self):
        live = live_with(example_road(), CARS)
        for name in ["eve", "to", "TOM", *NOT_NAMES]:
            for tick in (0, -1, None):
                with self.subTest(name=name, tick=tick):
                    self.assert_unknown(name, live.position, name, tick)
        live.remove("tom")
        self.assert_unknown("tom", live.position, "tom", 0)
        self.assert_unknown("tom", LiveRoad(example_road()).position, "tom", 0)

    def test_wrong_ticks(self):
        live = live_with(example_road(), CARS)
        for tick in TICKS:
            with self.subTest(tick=tick):
                self.assert_number(live.position, "tom", tick)

    def test_errors_change_nothing(self):
        live = live_with(example_road(), CARS)
        live.undo()
        for name, tick, error in (("bob", 1, UnknownCar), ("tom", -1, InvalidNumber)):
            with self.assertRaises(error):
                live.position(name, tick)
        self.assertEqual(live.present_cars, CARS[:2])
        self.assertTrue(live.redo())


if __name__ == "__main__":
    unittest.main()
