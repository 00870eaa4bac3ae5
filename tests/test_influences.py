"""One car less: points 7 and 8 of the document."""

import unittest

from slowleaders.driving import Drive
from slowleaders.influences import (
    chain_between, changed_without, possible_hinderers, real_hinderers, unhappy_removals,
)
from slowleaders.roads import Road
from traffic_case import CARS, NO_CARS, TEN, TEN_NAMES, TrafficCase, example_road
from wrong_values import WRONG_CARS

UNHAPPY = (("tom", 0, 20), ("bob", 0, 10), ("ann", 150, 1))


def removals(road, cars):
    return list(unhappy_removals(road, cars))


class ExamplesTest(TrafficCase):
    def test_hinderers(self):
        road = example_road()
        self.assertEqual(
            [possible_hinderers(road, CARS, "bob"), real_hinderers(road, CARS, "ann")],
            [["tom"], ["tom"]],
        )

    def test_unknown_car(self):
        self.assert_unknown("eve", real_hinderers, example_road(), CARS, "eve")

    def test_changed_without(self):
        self.assertEqual(
            changed_without(example_road(), CARS, "tom"), {"ann": (90, 55), "bob": (120, 110)}
        )

    def test_unhappy_removals(self):
        self.assertEqual(removals(example_road(), UNHAPPY), [("tom", "ann")])

    def test_chain_between(self):
        road = example_road()
        self.assertEqual(
            [chain_between(road, CARS, "tom", "ann"), chain_between(road, CARS, "ann", "tom")],
            [["tom", "ann"], None],
        )


class PossibleHinderersTest(TrafficCase):
    def test_order_at_the_beginning(self):
        cars = (("c", 9, 7), ("b", 5, 8), ("me", 10, 1), ("a", 9, 9), ("d", 0, 2))
        self.assertEqual(possible_hinderers(example_road(), cars, "me"), ["d", "b", "c", "a"])

    def test_only_slower_cars(self):
        cars = (("slower", 0, 5), ("equal", 0, 4), ("faster", 0, 3), ("me", 1, 4))
        self.assertEqual(possible_hinderers(example_road(), cars, "me"), ["slower"])

    def test_only_cars_that_start_ahead(self):
        cars = (("a", 5, 9), ("me", 5, 1), ("b", 5, 9), ("c", 6, 9), ("d", 4, 9))
        self.assertEqual(possible_hinderers(example_road(), cars, "me"), ["d", "a"])

    def test_cars_that_never_meet(self):
        cars = (("tom", 0, 2), ("ann", 10 ** 6, 1))
        for road in (example_road(), Road(("wide", 5))):
            self.assertEqual(possible_hinderers(road, cars, "ann"), ["tom"])
            self.assertEqual(real_hinderers(road, cars, "ann"), [])


class FewCarsTest(TrafficCase):
    def test_no_cars(self):
        road = example_road()
        for call in (possible_hinderers, real_hinderers, changed_without):
            self.assert_unknown("tom", call, road, (), "tom")
        self.assert_unknown("tom", chain_between, road, (), "tom", "ann")
        self.assertEqual(removals(road, ()), [])

    def test_one_car(self):
        road, cars = example_road(), CARS[:1]
        self.assertEqual(possible_hinderers(road, cars, "tom"), [])
        self.assertEqual(real_hinderers(road, cars, "tom"), [])
        self.assertEqual(changed_without(road, cars, "tom"), {})
        self.assertEqual(removals(road, cars), [])
        self.assertIsNone(chain_between(road, cars, "tom", "tom"))

    def test_car_does_not_hinder_or_change_itself(self):
        road = example_road()
        for cars in (CARS, TEN):
            for name, _, _ in cars:
                self.assertNotIn(name, possible_hinderers(road, cars, name))
                self.assertNotIn(name, real_hinderers(road, cars, name))
                self.assertNotIn(name, changed_without(road, cars, name))
                self.assertIsNone(chain_between(road, cars, name, name))


class TenCarsTest(TrafficCase):
    def test_all_follow_the_first_one(self):
        road = Road(("narrow", 99))
        first, second, *rest = TEN_NAMES
        arrivals = {name: Drive(road, TEN)(name) for name in TEN_NAMES}
        self.assertEqual(set(arrivals.values()), {5940})
        self.assertEqual(possible_hinderers(road, TEN, TEN_NAMES[9]), TEN_NAMES[:9])
        self.assertEqual(real_hinderers(road, TEN, TEN_NAMES[9]), [first])
        self.assertEqual(
            list(changed_without(road, TEN, first).items()),
            [(name, (5940, 5845)) for name in TEN_NAMES[1:]],
        )
        self.assertEqual(changed_without(road, TEN, second), {})
        self.assertEqual(chain_between(road, TEN, first, second), [first, second])
        self.assertEqual(chain_between(road, TEN, first, rest[-1]), [first, rest[-1]])
        self.assertIsNone(chain_between(road, TEN, second, rest[0]))
        self.assertEqual(removals(road, TEN), [])

    def test_nobody_changes_on_wide_roads(self):
        road = Road(("wide", 99), ("wide", 99))
        for name in TEN_NAMES:
            self.assertEqual(real_hinderers(road, TEN, name), [])
            self.assertEqual(changed_without(road, TEN, name), {})
            self.assertIsNone(chain_between(road, TEN, name, TEN_NAMES[9]))
        self.assertEqual(removals(road, TEN), [])


class ChangesTest(TrafficCase):
    # The mid one holds up the fast one in the first section, but at the end both follow the slow one.
    MIDDLE_ROAD = Road(("narrow", 10), ("narrow", 10))
    MIDDLE_CARS = (("slow", 0, 10), ("mid", 55, 5), ("fast", 60, 1))

    def test_removal_that_changes_nobody(self):
        self.assertEqual(changed_without(example_road(), CARS, "bob"), {})
        self.assertEqual(changed_without(example_road(), CARS, "ann"), {})

    def test_removal_that_changes_a_middle_place_only(self):
        road, cars = self.MIDDLE_ROAD, self.MIDDLE_CARS
        self.assertEqual(Drive(road, cars)["fast"], (60, 105, 200))
        self.assertEqual(Drive(road, (cars[0], cars[2]))["fast"], (60, 100, 200))
        self.assertEqual(changed_without(road, cars, "mid"), {"fast": (200, 200)})
        self.assertEqual(real_hinderers(road, cars, "fast"), ["slow", "mid"])
        self.assertEqual(chain_between(road, cars, "mid", "fast"), ["mid", "fast"])
        self.assertEqual(removals(road, cars), [])

    def test_real_hinderers_in_the_order_of_the_tuple(self):
        road, cars = self.MIDDLE_ROAD, self.MIDDLE_CARS
        self.assertEqual(real_hinderers(road, cars[::-1], "fast"), ["mid", "slow"])
        self.assertEqual(possible_hinderers(road, cars[::-1], "fast"), ["slow", "mid"])

    def test_changed_cars_in_the_order_of_the_tuple(self):
        cars = (("bob", 10, 4), ("tom", 0, 6), ("ann", 5, 2))
        self.assertEqual(
            list(changed_without(example_road(), cars, "tom").items()),
            [("bob", (120, 110)), ("ann", (90, 55))],
        )

    def test_removal_that_makes_another_one_later(self):
        self.assertEqual(changed_without(example_road(), UNHAPPY, "tom")["ann"], (215, 250))
        self.assertEqual(changed_without(example_road(), UNHAPPY, "tom")["bob"], (350, 250))
        self.assertEqual(real_hinderers(example_road(), UNHAPPY, "ann"), ["tom"])

    def test_unhappy_removals_in_the_order_of_the_tuple(self):
        cars = (("kim", 151, 1), *UNHAPPY)
        self.assertEqual(removals(example_road(), cars), [("tom", "kim"), ("tom", "ann")])
        cars = (UNHAPPY[2], *UNHAPPY[:2], ("kim", 151, 1))
        self.assertEqual(removals(example_road(), cars), [("tom", "ann"), ("tom", "kim")])

    def test_unhappy_removals_of_several_cars(self):
        # The same traffic twice, far from each other; the second one comes first in the tuple.
        later = (("eve", 5000, 20), ("bea", 5000, 10), ("liz", 5150, 1))
        self.assertEqual(
            removals(example_road(), later + UNHAPPY), [("eve", "liz"), ("tom", "ann")]
        )
        self.assertEqual(
            removals(example_road(), UNHAPPY + later), [("tom", "ann"), ("eve", "liz")]
        )


class ChainsTest(TrafficCase):
    ROAD = Road(("narrow", 4), ("wide", 4), ("narrow", 6), ("narrow", 8))
    NAMED = {"b": ("b", 1, 8), "c": ("c", 5, 2), "a": ("a", 11, 7), "d": ("d", 18, 1)}

    def check(self, order, chain):
        cars = tuple(self.NAMED[name] for name in order)
        self.assertEqual(chain_between(self.ROAD, cars, "b", "d"), chain)

    def test_first_one_of_several_chains(self):
        # Without b, c is free and so is a; d follows one of them in both cases.
        self.check("bcad", ["b", "c", "d"])
        self.check("dcab", ["b", "c", "d"])
        self.check("bacd", ["b", "a", "d"])
        self.check("dbac", ["b", "a", "d"])

    def test_shorter_chains_count_more_than_their_order(self):
        road, cars = example_road(), (("mid", 5, 5), ("fast", 6, 1), ("slow", 0, 6))
        self.assertEqual(chain_between(road, cars, "slow", "fast"), ["slow", "fast"])

    def test_long_chain(self):
        road = Road(("narrow", 1), ("wide", 6), ("narrow", 4), ("wide", 4), ("narrow", 11))
        cars = (("a", 17, 19), ("b", 26, 4), ("c", 40, 2), ("d", 66, 1))
        for given in (cars, cars[::-1]):
            self.assertEqual(chain_between(road, given, "a", "b"), ["a", "b"])
            self.assertEqual(chain_between(road, given, "a", "c"), ["a", "b", "c"])
            self.assertEqual(chain_between(road, given, "a", "d"), ["a", "b", "c", "d"])
            self.assertIsNone(chain_between(road, given, "d", "a"))

    def test_leader_in_the_drive_without_the_car(self):
        # With tom, kim overtakes both others without any wait; without him, bob is ahead of her.
        cars = (("tom", 0, 20), ("bob", 0, 10), ("kim", 195, 1))
        drive = Drive(example_road(), cars)
        self.assertEqual([drive.leader("kim", section) for section in range(3)], [None] * 3)
        self.assertEqual(changed_without(example_road(), cars, "tom")["kim"], (220, 250))
        self.assertEqual(chain_between(example_road(), cars, "tom", "kim"), ["tom", "bob", "kim"])

    def test_leader_in_the_drive_with_the_car(self):
        self.assertEqual(chain_between(example_road(), UNHAPPY, "tom", "bob"), ["tom", "bob"])
        self.assertEqual(chain_between(example_road(), UNHAPPY, "tom", "ann"), ["tom", "ann"])


class ErrorsTest(TrafficCase):
    def test_invalid_cars(self):
        road = example_road()
        for name in ("tom", "eve", None, ["tom"]):
            self.check_invalid_cars(lambda cars: possible_hinderers(road, cars, name))
            self.check_invalid_cars(lambda cars: real_hinderers(road, cars, name))
            self.check_invalid_cars(lambda cars: changed_without(road, cars, name))
            self.check_invalid_cars(lambda cars: chain_between(road, cars, name, "tom"))
            self.check_invalid_cars(lambda cars: chain_between(road, cars, "tom", name))
        self.check_invalid_cars(lambda cars: removals(road, cars))

    def test_unknown_cars(self):
        road = example_road()
        self.check_unknown_cars(lambda name: possible_hinderers(road, CARS, name))
        self.check_unknown_cars(lambda name: real_hinderers(road, CARS, name))
        self.check_unknown_cars(lambda name: changed_without(road, CARS, name))
        self.check_unknown_cars(lambda name: chain_between(road, CARS, name, "tom"))
        self.check_unknown_cars(lambda name: chain_between(road, CARS, "tom", name))

    def test_first_unknown_car(self):
        self.assert_unknown("eve", chain_between, example_road(), CARS, "eve", "kim")
        self.assert_unknown(None, chain_between, example_road(), CARS, None, "kim")
        self.assert_unknown("eve", chain_between, example_road(), CARS, "eve", None)

    def test_generator_checks_its_arguments_late(self):
        for cars in (*NO_CARS, *[(wrong,) for wrong in WRONG_CARS]):
            with self.subTest(cars=cars):
                found = unhappy_removals(example_road(), cars)
                self.assert_cars_index(0, next, found)


class ValuesTest(TrafficCase):
    def test_kinds(self):
        road = example_road()
        self.assertIs(type(possible_hinderers(road, CARS, "ann")), list)
        self.assertIs(type(real_hinderers(road, CARS, "ann")), list)
        self.assertIs(type(changed_without(road, CARS, "tom")), dict)
        self.assertIs(type(changed_without(road, CARS, "tom")["ann"]), tuple)
        self.assertIs(type(chain_between(road, CARS, "tom", "ann")), list)
        self.assertIs(type(next(unhappy_removals(road, UNHAPPY))), tuple)

    def test_returned_values_may_be_changed(self):
        road = example_road()
        for _ in range(2):
            calls = [
                possible_hinderers(road, CARS, "ann"), real_hinderers(road, CARS, "ann"),
                changed_without(road, CARS, "tom"), chain_between(road, CARS, "tom", "ann"),
                removals(road, UNHAPPY),
            ]
            self.assertEqual(
                calls,
                [
                    ["tom"], ["tom"], {"ann": (90, 55), "bob": (120, 110)}, ["tom", "ann"],
                    [("tom", "ann")],
                ],
            )
            for found in calls:
                found.clear()
        self.assertEqual(road.sections, example_road().sections)


if __name__ == "__main__":
    unittest.main()
