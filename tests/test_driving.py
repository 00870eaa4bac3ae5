"""Drives: points 4 to 6 of the document."""

import unittest

from slowleaders.driving import Drive
from slowleaders.errors import InvalidCars, InvalidNumber, UnknownCar
from slowleaders.roads import Road
from wrong_values import NOT_INTEGERS, NOT_NAMES, WRONG_CARS

CARS = (("tom", 0, 6), ("ann", 5, 2), ("bob", 10, 4))
TEN = tuple(("car" + letter, 7 * at, 60 - at) for at, letter in enumerate("abcdefghij"))
MISSING_PLACES = (-1, -4, 4, 5, 10 ** 30, -10 ** 30, *[place for place in NOT_INTEGERS if place is not None])
MISSING_SECTIONS = (-1, -3, 3, 4, 10 ** 30, -10 ** 30, *NOT_INTEGERS)
UNKNOWN_NAMES = ["eve", "to", "tomm", "TOM", "tom ", *NOT_NAMES]


def example_road():
    return Road(("narrow", 10), ("wide", 5), ("narrow", 10))


def example_drive():
    return Drive(example_road(), CARS)


class DriveCase(unittest.TestCase):
    def assert_cars_index(self, index, cars):
        with self.assertRaises(InvalidCars) as caught:
            Drive(example_road(), cars)
        self.assertEqual(caught.exception.index, index)

    def assert_unknown(self, name, call, *arguments):
        with self.assertRaises(UnknownCar) as caught:
            call(*arguments)
        self.assertEqual(caught.exception.name, name)


class ExamplesTest(DriveCase):
    def test_ticks(self):
        drive = example_drive()
        self.assertEqual(
            [drive["tom"], drive["ann"], drive["bob"]],
            [(0, 60, 90, 150), (5, 60, 70, 90), (10, 60, 80, 120)],
        )

    def test_signs(self):
        drive = example_drive()
        self.assertEqual([drive("ann"), drive("ann", 1), len(drive), "eve" in drive], [90, 60, 3, False])

    def test_invalid_cars(self):
        self.assert_cars_index(0, (("tom", 0, 61),))

    def test_order_at(self):
        drive = example_drive()
        self.assertEqual(
            [drive.order_at(1), drive.order_at(2)], [["tom", "ann", "bob"], ["ann", "bob", "tom"]]
        )

    def test_leader(self):
        drive = example_drive()
        self.assertEqual(
            [drive.leader("bob", 0), drive.leader("bob", 2), drive.leader("tom", 0)],
            ["tom", None, None],
        )

    def test_rows_of(self):
        drive = example_drive()
        self.assertEqual(
            [drive.rows_of(0), drive.rows_of(2)],
            [[["tom", "ann", "bob"]], [["ann"], ["bob"], ["tom"]]],
        )

    def test_overtakings(self):
        self.assertEqual(
            list(example_drive().overtakings()), [(1, "ann", "tom"), (1, "bob", "tom")]
        )

    def test_losses(self):
        self.assertEqual(example_drive().losses(), {"tom": 0, "ann": 35, "bob": 10})


class CarsTest(DriveCase):
    def test_limits(self):
        cars = (("a", 0, 1), ("abcdefgh", 10 ** 6, 60), ("z", 10 ** 6, 1), ("zzzzzzzz", 0, 60))
        drive = Drive(Road(("wide", 1)), cars)
        self.assertEqual(
            [drive[name] for name, _, _ in cars],
            [(0, 1), (10 ** 6, 10 ** 6 + 60), (10 ** 6, 10 ** 6 + 1), (0, 60)],
        )

    def test_all_letters(self):
        for letter in "abcdefghijklmnopqrstuvwxyz":
            self.assertTrue(letter in Drive(example_road(), ((letter, 0, 1),)))

    def test_wrong_car(self):
        for wrong in WRONG_CARS:
            with self.subTest(wrong=wrong):
                self.assert_cars_index(0, (wrong,))
                self.assert_cars_index(1, (("ann", 0, 1), wrong))
                self.assert_cars_index(2, (*TEN[:2], wrong, ("ann", 0, 1)))

    def test_not_a_tuple(self):
        for cars in (None, True, False, 0, 5, "", "tom", [], list(CARS), [None]):
            with self.subTest(cars=cars):
                self.assert_cars_index(0, cars)

    def test_one_car_instead_of_cars(self):
        self.assert_cars_index(0, ("tom", 0, 6))

    def test_repeated_name(self):
        self.assert_cars_index(1, (("tom", 0, 6), ("tom", 0, 6)))
        self.assert_cars_index(3, (*CARS, ("ann", 7, 7)))
        self.assert_cars_index(9, (*TEN[:9], (TEN[0][0], 1, 1)))
        self.assert_cars_index(1, (("tom", 0, 6), ("tom", 1, 6), None))

    def test_eleventh_car(self):
        self.assertEqual(len(Drive(example_road(), TEN)), 10)
        self.assert_cars_index(10, (*TEN, ("eve", 0, 1)))
        self.assert_cars_index(10, (*TEN, None))
        self.assert_cars_index(10, (*TEN, TEN[0]))
        self.assert_cars_index(10, (*TEN, ("eve", 0, 1), None))

    def test_first_wrong_item(self):
        for first in range(10):
            for second in range(first, 10):
                cars = list(TEN)
                cars[first] = ("tom", 0, 0)
                cars[second] = None
                self.assert_cars_index(first, tuple(cars))
            self.assert_cars_index(first, (*TEN[:first], None, *TEN[first:], ("eve", 0, 1)))

    def test_start_after_the_last_one_is_wrong(self):
        self.assert_cars_index(1, (("tom", 10 ** 6, 60), ("ann", 10 ** 6 + 1, 60)))


class NoCarsTest(DriveCase):
    def test_no_cars(self):
        drive = Drive(example_road(), ())
        self.assertEqual(len(drive), 0)
        self.assertEqual([drive.order_at(place) for place in range(4)], [[], [], [], []])
        self.assertEqual([drive.rows_of(section) for section in range(3)], [[], [], []])
        self.assertEqual(list(drive.overtakings()), [])
        self.assertEqual(drive.losses(), {})
        self.assertFalse("tom" in drive)
        self.assert_unknown("tom", lambda: drive["tom"])
        self.assert_unknown("tom", drive, "tom")
        self.assert_unknown("tom", drive.leader, "tom", 0)
        with self.assertRaises(InvalidNumber):
            drive.order_at(4)


class TicksTest(DriveCase):
    def test_one_car(self):
        drive = Drive(Road(("narrow", 1), ("wide", 99), ("wide", 2), ("narrow", 3)), (("tom", 7, 60),))
        self.assertEqual(drive["tom"], (7, 67, 6007, 6127, 6307))

    def test_cars_are_free_in_wide_sections(self):
        drive = Drive(Road(("wide", 10)), (("tom", 0, 60), ("ann", 1, 1), ("bob", 1, 2)))
        self.assertEqual([drive[name] for name in ("tom", "ann", "bob")], [(0, 600), (1, 11), (1, 21)])

    def test_car_is_held_up_by_the_one_directly_ahead(self):
        drive = Drive(Road(("narrow", 10)), (("tom", 0, 4), ("ann", 20, 5), ("bob", 30, 1)))
        self.assertEqual([drive("tom"), drive("ann"), drive("bob")], [40, 70, 70])

    def test_cars_behind_a_row_are_free(self):
        drive = Drive(Road(("narrow", 10)), (("tom", 0, 4), ("ann", 1, 1), ("bob", 39, 1)))
        self.assertEqual([drive("tom"), drive("ann"), drive("bob")], [40, 40, 49])

    def test_held_up_car_enters_later(self):
        road = Road(("narrow", 10), ("narrow", 10))
        drive = Drive(road, (("tom", 0, 5), ("ann", 0, 3)))
        self.assertEqual(drive["ann"], (0, 50, 100))
        drive = Drive(Road(("narrow", 10), ("wide", 10)), (("tom", 0, 5), ("ann", 0, 3)))
        self.assertEqual(drive["ann"], (0, 50, 80))

    def test_places(self):
        drive = example_drive()
        for name, _, _ in CARS:
            self.assertEqual(tuple(drive(name, place) for place in range(4)), drive[name])
            self.assertEqual(drive(name), drive[name][3])
            self.assertEqual(drive(name, None), drive[name][3])
            self.assertEqual(drive(name, place=0), drive[name][0])

    def test_missing_places(self):
        drive = example_drive()
        for place in MISSING_PLACES:
            with self.subTest(place=place), self.assertRaises(InvalidNumber):
                drive("tom", place)

    def test_unknown_cars(self):
        drive = example_drive()
        for name in UNKNOWN_NAMES:
            with self.subTest(name=name):
                self.assert_unknown(name, lambda: drive[name])
                self.assert_unknown(name, drive, name)
                self.assert_unknown(name, drive, name, 1)
                self.assert_unknown(name, drive, name, None)

    def test_name_is_checked_first(self):
        drive = example_drive()
        for place in MISSING_PLACES:
            self.assert_unknown("eve", drive, "eve", place)
            self.assert_unknown(None, drive, None, place)


class SignsTest(DriveCase):
    def test_in(self):
        drive = example_drive()
        for name, _, _ in CARS:
            self.assertTrue(name in drive)
        for name in UNKNOWN_NAMES:
            self.assertFalse(name in drive)
        self.assertFalse(CARS[0] in drive)

    def test_len(self):
        for many in range(11):
            self.assertEqual(len(Drive(example_road(), TEN[:many])), many)

    def test_not_walked(self):
        for drive in (example_drive(), Drive(example_road(), ())):
            with self.assertRaises(TypeError):
                iter(drive)
            with self.assertRaises(TypeError):
                list(drive)
            with self.assertRaises(TypeError):
                for _ in drive:
                    pass


class OrderTest(DriveCase):
    def test_order_of_the_starts(self):
        drive = Drive(example_road(), (("tom", 9, 1), ("ann", 10, 1), ("bob", 2, 1)))
        self.assertEqual(drive.order_at(0), ["bob", "tom", "ann"])

    def test_equal_starts(self):
        cars = (("z", 5, 1), ("m", 5, 60), ("first", 4, 1), ("a", 5, 2))
        self.assertEqual(Drive(example_road(), cars).order_at(0), ["first", "z", "m", "a"])

    def test_order_in_narrow_sections(self):
        drive = Drive(Road(("narrow", 99), ("narrow", 1)), (("tom", 0, 60), ("ann", 0, 1)))
        self.assertEqual([drive.order_at(place) for place in range(3)], [["tom", "ann"]] * 3)

    def test_equal_ticks_at_the_end_of_a_wide_section(self):
        for cars in ((("tom", 0, 3), ("ann", 20, 1)), (("ann", 20, 1), ("tom", 0, 3))):
            drive = Drive(Road(("wide", 10), ("narrow", 1), ("wide", 1)), cars)
            self.assertEqual([drive("tom", 1), drive("ann", 1)], [30, 30])
            self.assertEqual(drive.order_at(1), ["tom", "ann"])
            self.assertEqual([drive("tom", 2), drive("ann", 2)], [33, 33])
            self.assertEqual(drive.order_at(3), ["ann", "tom"])

    def test_missing_places(self):
        for place in (None, *MISSING_PLACES):
            with self.subTest(place=place), self.assertRaises(InvalidNumber):
                example_drive().order_at(place)

    def test_first_and_last_place(self):
        drive = example_drive()
        self.assertEqual(drive.order_at(0), ["tom", "ann", "bob"])
        self.assertEqual(drive.order_at(3), ["ann", "bob", "tom"])


class LeaderTest(DriveCase):
    def test_nearest_car_that_does_not_follow(self):
        cars = (("tom", 0, 6), ("ann", 5, 5), ("bob", 60, 1), ("eve", 65, 4), ("kim", 66, 3))
        drive = Drive(Road(("narrow", 10)), cars)
        self.assertEqual(
            [drive.leader(name, 0) for name, _, _ in cars], [None, "tom", None, None, "eve"]
        )
        self.assertEqual(drive.rows_of(0), [["tom", "ann"], ["bob"], ["eve", "kim"]])

    def test_leader_behind_other_followers(self):
        cars = (("tom", 0, 6), ("ann", 1, 5), ("bob", 2, 1), ("eve", 3, 4))
        drive = Drive(Road(("narrow", 10)), cars)
        self.assertEqual([drive.leader(name, 0) for name, _, _ in cars], [None, "tom", "tom", "tom"])
        self.assertEqual(drive.rows_of(0), [["tom", "ann", "bob", "eve"]])

    def test_car_that_would_leave_in_the_same_tick(self):
        drive = Drive(Road(("narrow", 10)), (("tom", 0, 3), ("ann", 20, 1), ("bob", 21, 1), ("eve", 25, 1)))
        self.assertEqual([drive(name) for name in ("tom", "ann", "bob", "eve")], [30, 30, 31, 35])
        self.assertEqual([drive.leader(name, 0) for name in ("ann", "bob")], [None, None])
        self.assertEqual(drive.rows_of(0), [["tom"], ["ann"], ["bob"], ["eve"]])

    def test_car_behind_one_with_the_same_tick(self):
        drive = Drive(Road(("narrow", 10)), (("tom", 0, 3), ("ann", 20, 1), ("bob", 20, 1), ("eve", 20, 1)))
        self.assertEqual(drive.rows_of(0), [["tom"], ["ann"], ["bob"], ["eve"]])
        drive = Drive(Road(("narrow", 10)), (("tom", 0, 4), ("ann", 20, 2), ("bob", 29, 1)))
        self.assertEqual(drive.rows_of(0), [["tom"], ["ann", "bob"]])
        self.assertEqual(drive.leader("bob", 0), "ann")

    def test_car_that_would_leave_with_its_row(self):
        drive = Drive(Road(("narrow", 10)), (("tom", 0, 4), ("ann", 0, 2), ("bob", 30, 1), ("eve", 30, 1)))
        self.assertEqual([drive.leader(name, 0) for name in ("ann", "bob", "eve")], ["tom", None, None])
        self.assertEqual(drive.rows_of(0), [["tom", "ann"], ["bob"], ["eve"]])

    def test_nobody_follows_in_wide_sections(self):
        drive = Drive(Road(("wide", 10), ("narrow", 1)), (("tom", 0, 4), ("ann", 0, 2), ("bob", 1, 1)))
        self.assertEqual([drive.leader(name, 0) for name in ("tom", "ann", "bob")], [None] * 3)
        self.assertEqual(drive.rows_of(0), [["bob"], ["ann"], ["tom"]])

    def test_unknown_cars(self):
        for name in UNKNOWN_NAMES:
            with self.subTest(name=name):
                self.assert_unknown(name, example_drive().leader, name, 0)

    def test_missing_sections(self):
        drive = example_drive()
        for section in MISSING_SECTIONS:
            with self.subTest(section=section):
                with self.assertRaises(InvalidNumber):
                    drive.leader("tom", section)
                with self.assertRaises(InvalidNumber):
                    drive.rows_of(section)
                self.assert_unknown("eve", drive.leader, "eve", section)

    def test_last_section(self):
        road = Road(*[("narrow", 1)] * 12)
        drive = Drive(road, (("tom", 0, 2), ("ann", 0, 1)))
        self.assertEqual([drive.leader("ann", section) for section in range(12)], ["tom"] * 12)
        self.assertEqual(drive.rows_of(11), [["tom", "ann"]])
        with self.assertRaises(InvalidNumber):
            drive.leader("ann", 12)
        with self.assertRaises(InvalidNumber):
            drive.rows_of(12)


class OvertakingsTest(DriveCase):
    def test_order(self):
        cars = (("a", 0, 9), ("b", 0, 8), ("c", 0, 2), ("d", 0, 1))
        self.assertEqual(
            list(Drive(Road(("wide", 10)), cars).overtakings()),
            [
                (0, "d", "a"), (0, "d", "b"), (0, "d", "c"),
                (0, "c", "a"), (0, "c", "b"),
                (0, "b", "a"),
            ],
        )

    def test_order_at_the_beginning_is_not_that_of_the_tuple(self):
        cars = (("b", 1, 8), ("c", 2, 1), ("a", 0, 9))
        self.assertEqual(
            list(Drive(Road(("wide", 10)), cars).overtakings()),
            [(0, "c", "a"), (0, "c", "b"), (0, "b", "a")],
        )

    def test_several_sections(self):
        cars = (("a", 0, 5), ("b", 11, 4), ("c", 25, 3))
        road = Road(("wide", 12), ("narrow", 5), ("wide", 6), ("wide", 10))
        drive = Drive(road, cars)
        self.assertEqual(
            [drive[name] for name in "abc"],
            [(0, 60, 85, 115, 165), (11, 59, 79, 103, 143), (25, 61, 85, 103, 133)],
        )
        self.assertEqual(["".join(drive.order_at(place)) for place in range(5)], ["abc", "bac", "bac", "bca", "cba"])
        self.assertEqual(
            list(drive.overtakings()), [(0, "b", "a"), (2, "c", "a"), (3, "c", "b")]
        )

    def test_equal_ticks_are_no_overtaking(self):
        drive = Drive(Road(("wide", 10)), (("tom", 0, 3), ("ann", 20, 1)))
        self.assertEqual(list(drive.overtakings()), [])

    def test_again(self):
        drive = example_drive()
        self.assertEqual(list(drive.overtakings()), list(drive.overtakings()))


class LossesTest(DriveCase):
    def test_order_of_the_tuple(self):
        cars = (("ann", 5, 2), ("bob", 10, 4), ("tom", 0, 6))
        losses = Drive(example_road(), cars).losses()
        self.assertEqual(list(losses.items()), [("ann", 35), ("bob", 10), ("tom", 0)])

    def test_nobody_loses_in_wide_sections(self):
        losses = Drive(Road(("wide", 99), ("wide", 99)), TEN).losses()
        self.assertEqual(losses, {name: 0 for name, _, _ in TEN})

    def test_loss_is_not_the_wait_at_a_single_section(self):
        # Behind the first section ann is so late that she loses nothing more.
        road = Road(("narrow", 10), ("narrow", 10), ("wide", 3))
        losses = Drive(road, (("tom", 0, 5), ("ann", 10, 3))).losses()
        self.assertEqual(losses, {"tom": 0, "ann": 30})


class KeptValuesTest(DriveCase):
    def test_returned_values_may_be_changed(self):
        drive = example_drive()
        drive.order_at(0).clear()
        drive.order_at(1).reverse()
        rows = drive.rows_of(0)
        rows[0].append("eve")
        rows.append(["kim"])
        drive.rows_of(1).clear()
        drive.losses()["tom"] = 5
        drive.losses().clear()
        self.assertEqual(drive.order_at(0), ["tom", "ann", "bob"])
        self.assertEqual(drive.order_at(1), ["tom", "ann", "bob"])
        self.assertEqual(drive.rows_of(0), [["tom", "ann", "bob"]])
        self.assertEqual(drive.rows_of(1), [["ann"], ["bob"], ["tom"]])
        self.assertEqual(drive.losses(), {"tom": 0, "ann": 35, "bob": 10})

    def test_kinds_of_returned_values(self):
        drive = example_drive()
        self.assertIs(type(drive["tom"]), tuple)
        self.assertIs(type(drive.order_at(0)), list)
        self.assertIs(type(drive.rows_of(0)), list)
        self.assertTrue(all(type(row) is list for row in drive.rows_of(0)))
        self.assertIs(type(drive.losses()), dict)
        self.assertTrue(all(type(item) is tuple for item in drive.overtakings()))

    def test_errors_change_nothing(self):
        drive = example_drive()
        for call in (lambda: drive["eve"], lambda: drive("tom", 9), lambda: drive.leader("tom", -1)):
            with self.assertRaises((UnknownCar, InvalidNumber)):
                call()
        self.assertEqual([drive["tom"], drive("bob"), len(drive)], [(0, 60, 90, 150), 120, 3])

    def test_equal_drives(self):
        for _ in range(2):
            drive = example_drive()
            self.assertEqual(drive["ann"], (5, 60, 70, 90))


class FormTest(unittest.TestCase):
    def test_defined_where_the_interface_lists_it(self):
        self.assertEqual(Drive.__module__, "slowleaders.driving")
        signs = ["__init__", "__getitem__", "__call__", "__contains__", "__len__"]
        for name in [*signs, "order_at", "leader", "rows_of", "overtakings", "losses"]:
            self.assertIn(name, vars(Drive))


if __name__ == "__main__":
    unittest.main()
