"""Hidden paces (point 14 of the document)."""

import inspect
import unittest

from live_case import short_road
from outcomes import outcome, raises, returns
from slowleaders.driving import Drive
from slowleaders.errors import Contradiction, InvalidName, InvalidNumber, TooManyCars
from slowleaders.hidden import HiddenPace
from slowleaders.roads import Road
from traffic_case import CARS, TEN, TEN_NAMES, UNKNOWN_NAMES, TrafficCase, example_road, outside
from wrong_values import NOT_NAMES

ALL = list(range(1, 61))
STARTS = outside(0, 10 ** 6)
TICKS = outside(0, 10 ** 9)
PLACES = outside(0, 2)


def short_hidden():
    return HiddenPace(short_road(), (("a", 0, 3),), "b", 10)


class HiddenCase(TrafficCase):
    def check_unchanged(self, hidden, call, expected):
        before = (hidden.candidates, hidden.history)
        self.assertEqual(outcome(call), expected)
        self.assertEqual((hidden.candidates, hidden.history), before)


class ExamplesTest(HiddenCase):
    def test_see(self):
        hidden = short_hidden()
        self.assertEqual(
            [hidden.see(1, 30), hidden.candidates, hidden.possible_ticks(2), hidden.best_place()],
            [2, [1, 2], [40, 50], 2],
        )

    def test_contradiction(self):
        with self.assertRaises(Contradiction):
            short_hidden().see(1, 29)

    def test_see_order(self):
        hidden = short_hidden()
        self.assertEqual([hidden.see_order(2, "b", "a"), hidden.history], [2, [("see_order", 2, "b", "a")]])


class InterfaceTest(HiddenCase):
    def test_methods_stand_in_the_class(self):
        for name in ("see", "see_order", "candidates", "history", "possible_ticks", "best_place"):
            self.assertIn(name, vars(HiddenPace))
        self.assertEqual(HiddenPace.__module__, "slowleaders.hidden")

    def test_parameters(self):
        for name, parameters in (
            ("see", ["place", "tick"]), ("see_order", ["place", "names"]), ("possible_ticks", ["place"]),
            ("best_place", []),
        ):
            self.assertEqual(list(inspect.signature(getattr(short_hidden(), name)).parameters), parameters)
        self.assertEqual(list(inspect.signature(HiddenPace).parameters), ["road", "cars", "name", "start"])

    def test_new_hidden_pace(self):
        hidden = short_hidden()
        self.assertEqual((hidden.candidates, hidden.history), (ALL, []))
        self.assertEqual({type(value) for value in (hidden.candidates, hidden.history)}, {list})


class MakingTest(HiddenCase):
    def test_invalid_cars(self):
        for name, start in (("eve", 0), ("", 0), ("eve", -1), (None, None), ("tom", 0)):
            self.check_invalid_cars(lambda cars: HiddenPace(example_road(), cars, name, start))

    def test_invalid_names(self):
        for name in [*NOT_NAMES, "tom", "ann", "bob"]:
            for start in (0, -1, None):
                with self.subTest(name=name, start=start), self.assertRaises(InvalidName):
                    HiddenPace(example_road(), CARS, name, start)
        for name in (*TEN_NAMES, "", None):
            with self.assertRaises(InvalidName):
                HiddenPace(example_road(), TEN, name, -1)

    def test_names(self):
        for name in ("a", "z", "abcdefgh", "zzzzzzzz"):
            self.assertEqual(HiddenPace(example_road(), CARS, name, 0).see_order(0, "tom", name), 60)

    def test_wrong_starts(self):
        for start in STARTS:
            for cars in ((), CARS, TEN):
                with self.subTest(start=start), self.assertRaises(InvalidNumber):
                    HiddenPace(example_road(), cars, "eve", start)

    def test_limits_of_starts(self):
        for start in (0, 10 ** 6):
            hidden = HiddenPace(example_road(), CARS, "eve", start)
            self.assertEqual(hidden.possible_ticks(0), [start])

    def test_too_many_cars(self):
        with self.assertRaises(TooManyCars):
            HiddenPace(example_road(), TEN, "eve", 0)
        hidden = HiddenPace(example_road(), TEN[:9], "eve", 0)
        self.assertEqual(len(hidden.candidates), 60)

    def test_no_other_cars(self):
        hidden = HiddenPace(example_road(), (), "eve", 7)
        self.assertEqual(hidden.possible_ticks(3), [7 + 25 * pace for pace in ALL])
        self.assertEqual([hidden.see(3, 7 + 25 * 17), hidden.candidates], [1, [17]])

    def test_further_car_is_the_last_one_of_the_tuple(self):
        cars = (("a", 5, 1), ("c", 0, 1), ("b", 5, 9))
        hidden = HiddenPace(Road(("wide", 1)), cars, "eve", 5)
        self.assertEqual(hidden.see_order(0, "c", "a", "b", "eve"), 60)
        self.check_unchanged(hidden, lambda: hidden.see_order(0, "eve", "a"), raises("Contradiction"))

    def test_start_ahead_of_others(self):
        # The further car hinders the other one, which is faster than most candidates.
        hidden = HiddenPace(Road(("narrow", 10)), (("a", 5, 3),), "b", 0)
        self.assertEqual(hidden.see_order(0, "b", "a"), 60)
        self.assertEqual(hidden.see_order(1, "b", "a"), 60)
        hidden = HiddenPace(Road(("wide", 10)), (("a", 5, 3),), "b", 0)
        # It arrives before the tick 35, or at the same tick and stays ahead.
        self.assertEqual([hidden.see_order(1, "b", "a"), hidden.candidates], [3, [1, 2, 3]])

    def test_two_hidden_paces_of_the_same_cars(self):
        first, second = short_hidden(), short_hidden()
        first.see(1, 30)
        self.assertEqual((second.candidates, second.history), (ALL, []))


class SeeTest(HiddenCase):
    def test_all_but_one(self):
        for pace in (1, 17, 60):
            hidden = HiddenPace(Road(("wide", 10)), (("a", 0, 3),), "b", 10)
            self.assertEqual([hidden.see(1, 10 + 10 * pace), hidden.candidates], [1, [pace]])
            self.assertEqual(hidden.history, [("see", 1, 10 + 10 * pace)])

    def test_nothing_excluded(self):
        hidden = short_hidden()
        self.assertEqual([hidden.see(0, 10), hidden.candidates], [60, ALL])
        self.assertEqual([hidden.see(0, 10), hidden.history], [60, [("see", 0, 10)] * 2])

    def test_all_excluded(self):
        hidden = short_hidden()
        for place, tick in ((0, 9), (0, 11), (0, 0), (1, 29), (1, 31), (2, 39), (2, 10 ** 9), (1, 0)):
            self.check_unchanged(hidden, lambda: hidden.see(place, tick), raises("Contradiction"))
        hidden.see(1, 30)
        for place, tick in ((1, 40), (2, 70), (2, 60)):
            self.check_unchanged(hidden, lambda: hidden.see(place, tick), raises("Contradiction"))
        self.assertEqual([hidden.see(2, 40), hidden.candidates], [1, [1]])
        self.assertEqual(hidden.history, [("see", 1, 30), ("see", 2, 40)])

    def test_paces_with_equal_ticks(self):
        hidden = HiddenPace(Road(("narrow", 10)), (("a", 0, 60),), "b", 0)
        self.assertEqual(hidden.possible_ticks(1), [600])
        self.assertEqual([hidden.see(1, 600), hidden.candidates], [60, ALL])

    def test_wrong_places(self):
        hidden = short_hidden()
        for place in PLACES:
            for tick in (10, -1, None):
                with self.subTest(place=place):
                    self.check_unchanged(hidden, lambda: hidden.see(place, tick), raises("InvalidNumber"))

    def test_wrong_ticks(self):
        hidden = short_hidden()
        for tick in TICKS:
            with self.subTest(tick=tick):
                for place in (0, 1, 2):
                    self.check_unchanged(hidden, lambda: hidden.see(place, tick), raises("InvalidNumber"))

    def test_limits(self):
        hidden = HiddenPace(short_road(), (), "b", 0)
        self.assertEqual(hidden.see(0, 0), 60)
        self.check_unchanged(hidden, lambda: hidden.see(2, 10 ** 9), raises("Contradiction"))
        self.check_unchanged(hidden, lambda: hidden.see(2, 10 ** 9 + 1), raises("InvalidNumber"))
        self.check_unchanged(hidden, lambda: hidden.see(3, 0), raises("InvalidNumber"))


class SeeOrderTest(HiddenCase):
    def test_places(self):
        hidden = short_hidden()
        self.assertEqual(hidden.see_order(0, "a", "b"), 60)
        self.assertEqual(hidden.see_order(1, "a", "b"), 60)
        self.assertEqual(hidden.see_order(2, "a", "b"), 58)
        self.assertEqual(hidden.candidates, ALL[2:])
        self.check_unchanged(hidden, lambda: hidden.see_order(2, "b", "a"), raises("Contradiction"))

    def test_no_names_and_one_name(self):
        hidden = short_hidden()
        for place in (0, 1, 2):
            self.assertEqual(hidden.see_order(place), 60)
            self.assertEqual(hidden.see_order(place, "a"), 60)
            self.assertEqual(hidden.see_order(place, "b"), 60)
        self.assertEqual(
            hidden.history,
            [observation for place in (0, 1, 2) for observation in
             (("see_order", place), ("see_order", place, "a"), ("see_order", place, "b"))],
        )

    def test_other_cars_in_between(self):
        hidden = HiddenPace(example_road(), CARS, "eve", 10)
        self.assertEqual(hidden.see_order(0, "tom", "bob"), 60)
        self.assertEqual(hidden.see_order(0, "tom", "eve"), 60)
        self.assertEqual(hidden.see_order(0, "tom", "ann", "bob", "eve"), 60)
        self.check_unchanged(hidden, lambda: hidden.see_order(0, "tom", "eve", "bob"), raises("Contradiction"))
        self.check_unchanged(hidden, lambda: hidden.see_order(0, "eve", "tom"), raises("Contradiction"))

    def test_cars_besides_only(self):
        hidden = HiddenPace(example_road(), CARS, "eve", 10)
        self.assertEqual(hidden.see_order(3, "ann", "bob", "tom"), 60)
        self.check_unchanged(hidden, lambda: hidden.see_order(3, "bob", "ann"), raises("Contradiction"))
        self.check_unchanged(hidden, lambda: hidden.see_order(3, "ann", "tom", "bob"), raises("Contradiction"))

    def test_cars_besides_tell_of_the_pace(self):
        # If the hidden car is slower than tom, the others wait for it and stay ahead of tom.
        road, cars = Road(("narrow", 10), ("wide", 10)), (("slow", 5, 20), ("fast", 6, 1))
        hidden = HiddenPace(road, cars, "x", 0)
        self.assertEqual(hidden.see_order(2, "fast", "slow"), 60)
        hidden = HiddenPace(Road(("wide", 10), ("narrow", 10), ("wide", 10)), (("a", 0, 9), ("b", 1, 8)), "x", 0)
        paces = [
            pace for pace in ALL
            if Drive(Road(("wide", 10), ("narrow", 10), ("wide", 10)), (("a", 0, 9), ("b", 1, 8), ("x", 0, pace)))
            .order_at(1).index("x") == 0
        ]
        self.assertEqual([hidden.see_order(1, "x", "b", "a"), hidden.candidates], [len(paces), paces])

    def test_names_given_twice(self):
        hidden = HiddenPace(example_road(), CARS, "eve", 10)
        for names in (("tom", "tom"), ("eve", "eve"), ("tom", "eve", "tom"), ("ann", "eve", "eve"), ("tom",) * 3):
            for place in range(4):
                self.check_unchanged(hidden, lambda: hidden.see_order(place, *names), raises("Contradiction"))

    def test_unknown_names(self):
        hidden = HiddenPace(example_road(), CARS, "x", 10)
        for name in UNKNOWN_NAMES:
            with self.subTest(name=name):
                for names in ((name,), ("tom", name), (name, name), ("tom", "tom", name), (name, "nobody", "x")):
                    self.check_unchanged(
                        hidden, lambda: hidden.see_order(3, *names), raises("UnknownCar", name=name)
                    )

    def test_first_unknown_name(self):
        hidden = short_hidden()
        self.check_unchanged(
            hidden, lambda: hidden.see_order(0, "a", "c", "d", None), raises("UnknownCar", name="c")
        )

    def test_wrong_places(self):
        hidden = short_hidden()
        for place in PLACES:
            for names in ((), ("a", "b"), ("nobody",), (None,), ("b", "b")):
                with self.subTest(place=place, names=names):
                    self.check_unchanged(hidden, lambda: hidden.see_order(place, *names), raises("InvalidNumber"))


class TicksTest(HiddenCase):
    def test_possible_ticks(self):
        hidden = short_hidden()
        self.assertEqual(hidden.possible_ticks(0), [10])
        self.assertEqual(hidden.possible_ticks(1), [30, *[10 + 10 * pace for pace in ALL[2:]]])
        self.assertEqual(hidden.possible_ticks(2)[:4], [40, 50, 70, 90])
        self.assertEqual(hidden.possible_ticks(2)[-1], 10 + 20 * 60)

    def test_equal_ticks_count_once(self):
        hidden = HiddenPace(Road(("narrow", 10)), (("a", 0, 60),), "b", 599)
        self.assertEqual(hidden.possible_ticks(1), [599 + 10 * pace for pace in ALL])
        hidden = HiddenPace(Road(("narrow", 10)), (("a", 0, 60),), "b", 580)
        self.assertEqual(hidden.possible_ticks(1)[:3], [600, 610, 620])
        self.assertEqual(len(hidden.possible_ticks(1)), 59)

    def test_after_observations(self):
        hidden = short_hidden()
        hidden.see_order(2, "b", "a")
        self.assertEqual([hidden.possible_ticks(place) for place in range(3)], [[10], [30], [40, 50]])

    def test_wrong_places(self):
        hidden = short_hidden()
        for place in PLACES:
            with self.subTest(place=place):
                self.check_unchanged(hidden, lambda: hidden.possible_ticks(place), raises("InvalidNumber"))

    def test_best_place(self):
        self.assertEqual(HiddenPace(example_road(), (), "b", 10).best_place(), 1)
        self.assertEqual(short_hidden().best_place(), 2)
        self.assertEqual(HiddenPace(Road(("narrow", 10)), (("a", 0, 60),), "b", 0).best_place(), 0)
        # All ticks differ at the place 1, and some are equal behind it.
        road = Road(("wide", 1), ("narrow", 9))
        self.assertEqual(HiddenPace(road, (("a", 0, 60),), "b", 0).best_place(), 1)

    def test_best_place_with_one_candidate(self):
        hidden = HiddenPace(example_road(), CARS, "eve", 10)
        hidden.see(3, 10 + 25 * 60)
        self.assertEqual([len(hidden.candidates), hidden.best_place()], [1, 0])

    def test_returned_lists_are_new(self):
        hidden = short_hidden()
        hidden.see(0, 10)
        for call in (
            lambda: hidden.candidates, lambda: hidden.history, lambda: hidden.possible_ticks(1),
        ):
            found = call()
            expected = list(found)
            self.assertIsNot(found, call())
            found.clear()
            found.append(99)
            self.assertEqual(call(), expected)
        self.assertEqual([hidden.see(1, 30), hidden.best_place()], [2, 2])

    def test_outcomes_again(self):
        hidden = short_hidden()
        hidden.see_order(2, "b", "a")
        for _ in range(3):
            self.assertEqual(outcome(hidden.possible_ticks, 2), returns([40, 50]))
            self.assertEqual(outcome(hidden.possible_ticks, 3), raises("InvalidNumber"))
            self.assertEqual(outcome(hidden.see, 2, 41), raises("Contradiction"))
            self.assertEqual(outcome(hidden.see_order, 2, "b", "a"), returns(2))
            self.assertEqual(hidden.best_place(), 2)


if __name__ == "__main__":
    unittest.main()
