"""Live roads: what joins, is removed and changes (point 12 of the document)."""

import inspect
import unittest

from live_case import LiveCase, live_with, short_road
from outcomes import outcome, raises, returns
from slowleaders.driving import Drive
from slowleaders.errors import (
    InvalidKind, InvalidName, InvalidNumber, TooManyCars, UnknownCar, UnknownSection,
)
from slowleaders.live import LiveRoad
from slowleaders.roads import Road
from traffic_case import CARS, TEN, example_road, outside
from wrong_values import NOT_INTEGERS, NOT_NAMES

STARTS = outside(0, 10 ** 6)
PACES = outside(1, 60)
SECTIONS = outside(0, 1)
NOT_KINDS = [
    True, False, None, 0, 1, "", "n", "w", "Narrow", "WIDE", "narrow ", " wide", "wider", (), ("wide",),
    [], ["wide"], ("narrow", 10), (["wide"],),
]


class ExamplesTest(LiveCase):
    def test_join(self):
        live = LiveRoad(short_road())
        self.assertEqual(
            [live.join("a", 0, 3), live.join("b", 10, 1), "b" in live, len(live)], [60, 40, True, 2]
        )

    def test_set_kind_and_remove(self):
        live = LiveRoad(short_road())
        self.assertEqual(
            [live.join("a", 0, 3), live.join("b", 10, 1), live.set_kind(0, "wide"), live.remove("a")],
            [60, 40, {"b": (40, 30)}, {}],
        )

    def test_earlier_start(self):
        live = LiveRoad(short_road())
        self.assertEqual(live.join("a", 5, 3), 65)
        with self.assertRaises(InvalidNumber):
            live.join("b", 4, 1)


class InterfaceTest(LiveCase):
    def test_methods_stand_in_the_class(self):
        names = [
            "join", "remove", "set_kind", "position", "drive", "undo", "redo", "apply", "arrivals_after",
            "replay", "present_road", "present_cars", "history",
            "__contains__", "__len__", "__enter__", "__exit__",
        ]
        for name in names:
            self.assertIn(name, vars(LiveRoad))
        self.assertEqual(LiveRoad.__module__, "slowleaders.live")

    def test_parameters(self):
        for name, parameters in (
            ("join", ["name", "start", "pace"]), ("remove", ["name"]), ("set_kind", ["section", "kind"]),
            ("position", ["name", "tick"]), ("drive", []), ("undo", []), ("redo", []),
            ("apply", ["operations"]), ("arrivals_after", ["operations"]), ("replay", ["road", "operations"]),
        ):
            self.assertEqual(list(inspect.signature(getattr(LiveRoad(example_road()), name)).parameters), parameters)
        self.assertEqual(list(inspect.signature(LiveRoad).parameters), ["road"])


class BeginTest(LiveCase):
    def test_no_cars(self):
        live = LiveRoad(example_road())
        self.assert_same(live, example_road().sections, (), [])
        self.assertNotIn("tom", live)
        self.assertEqual(len(live.drive()), 0)

    def test_kinds_of_values(self):
        live = live_with(example_road(), CARS)
        self.assertIsInstance(live.present_road, Road)
        self.assertIs(type(live.present_cars), tuple)
        self.assertEqual({type(car) for car in live.present_cars}, {tuple})
        self.assertIs(type(live.history), list)
        self.assertEqual({type(operation) for operation in live.history}, {tuple})
        self.assertIsInstance(live.drive(), Drive)

    def test_two_live_roads_of_one_road(self):
        road = example_road()
        first, second = LiveRoad(road), LiveRoad(road)
        first.set_kind(0, "wide")
        first.join("tom", 0, 6)
        self.assert_same(second, example_road().sections, (), [])
        self.assertEqual(road.sections, example_road().sections)


class JoinTest(LiveCase):
    def test_arrivals_are_those_of_the_drive(self):
        live = LiveRoad(example_road())
        self.assertEqual([live.join(*car) for car in CARS], [150, 90, 120])
        self.assert_same(live, example_road().sections, CARS, [("join", *car) for car in CARS])
        for name, _, _ in CARS:
            self.assertEqual(live.drive()[name], Drive(example_road(), CARS)[name])

    def test_names(self):
        live = LiveRoad(example_road())
        for name in ("a", "z", "abcdefgh", "zzzzzzzz"):
            live.join(name, 0, 1)
        self.assertEqual([car[0] for car in live.present_cars], ["a", "z", "abcdefgh", "zzzzzzzz"])

    def test_wrong_names(self):
        for cars in ((), CARS):
            live = live_with(example_road(), cars)
            for name in [*NOT_NAMES, "a" * 9]:
                with self.subTest(name=name):
                    self.check_unchanged(live, lambda: live.join(name, 10, 5), InvalidName)

    def test_names_in_use(self):
        live = live_with(example_road(), CARS)
        for name, _, _ in CARS:
            self.check_unchanged(live, lambda: live.join(name, 10, 5), InvalidName)

    def test_name_of_a_removed_car(self):
        live = live_with(example_road(), CARS)
        live.remove("tom")
        self.assertEqual(live.join("tom", 10, 6), 160)
        self.assertEqual(live.present_cars, (*CARS[1:], ("tom", 10, 6)))

    def test_equal_start(self):
        live = live_with(Road(("narrow", 10)), (("tom", 7, 6),))
        self.assertEqual(live.join("ann", 7, 1), 67)
        self.assertEqual(live.join("bob", 7, 9), 97)
        self.assertEqual(live.drive().order_at(0), ["tom", "ann", "bob"])

    def test_earlier_starts(self):
        live = live_with(example_road(), CARS)
        for start in (9, 5, 0, -1):
            self.check_unchanged(live, lambda: live.join("eve", start, 1), InvalidNumber)
        live.join("eve", 10, 1)
        self.check_unchanged(live, lambda: live.join("kim", 9, 1), InvalidNumber)

    def test_start_after_the_last_car_was_removed(self):
        live = live_with(example_road(), CARS)
        live.remove("bob")
        self.check_unchanged(live, lambda: live.join("eve", 4, 1), InvalidNumber)
        live.join("eve", 5, 1)
        for name in ("eve", "tom", "ann"):
            live.remove(name)
        live.join("kim", 0, 1)
        self.assertEqual(live.present_cars, (("kim", 0, 1),))

    def test_start_after_another_car_was_removed(self):
        live = live_with(example_road(), CARS)
        live.remove("tom")
        live.remove("ann")
        self.check_unchanged(live, lambda: live.join("eve", 9, 1), InvalidNumber)
        live.join("eve", 10, 1)

    def test_limits(self):
        live = LiveRoad(Road(("narrow", 99)))
        self.assertEqual(live.join("a", 0, 1), 99)
        self.assertEqual(live.join("b", 0, 60), 5940)
        self.assertEqual(live.join("c", 10 ** 6, 60), 10 ** 6 + 5940)
        self.assertEqual(live.join("d", 10 ** 6, 1), 10 ** 6 + 5940)

    def test_wrong_starts_and_paces(self):
        live = LiveRoad(example_road())
        for start in STARTS:
            with self.subTest(start=start):
                self.check_unchanged(live, lambda: live.join("a", start, 1), InvalidNumber)
                self.check_unchanged(live, lambda: live.join("a", start, None), InvalidNumber)
        for pace in PACES:
            with self.subTest(pace=pace):
                self.check_unchanged(live, lambda: live.join("a", 0, pace), InvalidNumber)

    def test_ten_cars_and_an_eleventh(self):
        live = live_with(example_road(), TEN)
        self.assertEqual(live.present_cars, TEN)
        self.check_unchanged(live, lambda: live.join("tom", 36, 1), TooManyCars)
        live.remove(TEN[3][0])
        live.join("tom", 36, 1)
        self.check_unchanged(live, lambda: live.join("ann", 36, 1), TooManyCars)

    def test_order_of_errors(self):
        live = live_with(example_road(), TEN)
        for name in ("", "A", None, TEN[0][0]):
            self.check_unchanged(live, lambda: live.join(name, -1, 0), InvalidName)
            self.check_unchanged(live, lambda: live.join(name, 36, 1), InvalidName)
        for start, pace in ((35, 1), (36, 0), (True, 1), (36, 61), (10 ** 6 + 1, 1), (36, True)):
            self.check_unchanged(live, lambda: live.join("tom", start, pace), InvalidNumber)
        self.check_unchanged(live, lambda: live.join("tom", 36, 1), TooManyCars)

    def test_arrivals_ahead_stay(self):
        live = LiveRoad(example_road())
        arrivals = []
        for at, car in enumerate(TEN):
            arrivals.append(live.join(*car))
            self.assertEqual([live.drive()(name) for name, _, _ in TEN[:at + 1]], arrivals)


class RemoveTest(LiveCase):
    def test_changes(self):
        live = live_with(example_road(), CARS)
        self.assertEqual(live.remove("tom"), {"ann": (90, 55), "bob": (120, 110)})
        self.assert_same(
            live, example_road().sections, CARS[1:], [*[("join", *car) for car in CARS], ("remove", "tom")]
        )
        self.assertNotIn("tom", live)
        self.assertEqual([live.drive()("ann"), live.drive()("bob")], [55, 110])

    def test_no_changes(self):
        live = live_with(example_road(), CARS)
        self.assertEqual(live.remove("bob"), {})
        self.assertEqual(live.remove("ann"), {})
        self.assertEqual(live.remove("tom"), {})
        self.assertEqual(live.present_cars, ())

    def test_cars_that_arrive_later(self):
        live = live_with(example_road(), (("tom", 0, 20), ("bob", 0, 10), ("ann", 150, 1)))
        changes = live.remove("tom")
        self.assertEqual(list(changes), ["bob", "ann"])
        self.assertGreater(changes["ann"][1], changes["ann"][0])
        self.assertLess(changes["bob"][1], changes["bob"][0])

    def test_order_of_joining(self):
        cars = (("z", 0, 60), ("c", 1, 1), ("a", 1, 1), ("b", 2, 1))
        live = live_with(Road(("narrow", 10)), cars)
        self.assertEqual(list(live.remove("z").items()), [("c", (600, 11)), ("a", (600, 11)), ("b", (600, 12))])

    def test_cars_that_change_at_a_place_only(self):
        # Ann leaves the first section behind tom, and arrives with bob anyway.
        live = live_with(Road(("narrow", 1), ("narrow", 2)), (("bob", 16, 6), ("tom", 19, 5), ("ann", 19, 2)))
        self.assertEqual(live.drive()["ann"], (19, 24, 34))
        self.assertEqual(live.remove("tom"), {})
        self.assertEqual(live.drive()["ann"], (19, 22, 34))

    def test_unknown_cars(self):
        live = live_with(example_road(), CARS)
        for name in ["eve", "to", "TOM", *NOT_NAMES]:
            with self.subTest(name=name):
                self.assert_unknown(name, live.remove, name)
                self.check_unchanged(live, lambda: live.remove(name), UnknownCar)
        live.remove("tom")
        self.assert_unknown("tom", live.remove, "tom")

    def test_no_cars(self):
        self.assert_unknown("tom", LiveRoad(example_road()).remove, "tom")


class SetKindTest(LiveCase):
    def test_changes(self):
        live = live_with(example_road(), CARS)
        self.assertEqual(live.set_kind(0, "wide"), {"ann": (90, 55), "bob": (120, 110)})
        self.assertEqual(live.present_road.sections, (("wide", 10), ("wide", 5), ("narrow", 10)))
        self.assertEqual(live.set_kind(0, "narrow"), {"ann": (55, 90), "bob": (110, 120)})
        self.assertEqual(live.present_road.sections, example_road().sections)

    def test_same_kind(self):
        live = live_with(example_road(), CARS)
        for section, (kind, _) in enumerate(example_road().sections):
            self.assertEqual(live.set_kind(section, kind), {})
        self.assertEqual(live.present_road.sections, example_road().sections)
        self.assertEqual(
            live.history[3:], [("set_kind", 0, "narrow"), ("set_kind", 1, "wide"), ("set_kind", 2, "narrow")]
        )

    def test_beside_sections_of_the_same_kind(self):
        live = LiveRoad(example_road())
        live.set_kind(1, "narrow")
        self.assertEqual(live.present_road.sections, (("narrow", 10), ("narrow", 5), ("narrow", 10)))
        live.set_kind(2, "wide")
        live.set_kind(1, "wide")
        self.assertEqual(live.present_road.sections, (("narrow", 10), ("wide", 5), ("wide", 10)))
        self.assertEqual(live.present_road.units, "n" * 10 + "w" * 15)

    def test_twelve_sections(self):
        sections = tuple((("narrow", "wide")[at % 2], at + 1) for at in range(12))
        live = LiveRoad(Road(*sections))
        live.set_kind(11, "narrow")
        self.assertEqual(live.present_road.sections, (*sections[:11], ("narrow", 12)))
        self.check_unchanged(live, lambda: live.set_kind(12, "narrow"), UnknownSection)

    def test_order_of_joining(self):
        cars = (("z", 0, 60), ("c", 1, 1), ("a", 1, 1), ("b", 2, 1))
        live = live_with(Road(("narrow", 10)), cars)
        changes = live.set_kind(0, "wide")
        self.assertEqual(list(changes.items()), [("c", (600, 11)), ("a", (600, 11)), ("b", (600, 12))])

    def test_unknown_sections(self):
        live = live_with(short_road(), CARS)
        for section in SECTIONS:
            for kind in ("wide", "narrow", "n", None):
                with self.subTest(section=section, kind=kind):
                    self.assert_section(section, live.set_kind, section, kind)
                    self.check_unchanged(live, lambda: live.set_kind(section, kind), UnknownSection)

    def test_invalid_kinds(self):
        live = live_with(short_road(), CARS)
        for kind in NOT_KINDS:
            with self.subTest(kind=kind):
                for section in (0, 1):
                    self.check_unchanged(live, lambda: live.set_kind(section, kind), InvalidKind)


class SignsTest(LiveCase):
    def test_in(self):
        live = live_with(example_road(), CARS)
        for name, _, _ in CARS:
            self.assertTrue(name in live)
        for name in ["eve", "to", "TOM", *NOT_NAMES, *CARS]:
            self.assertFalse(name in live)

    def test_len(self):
        live = LiveRoad(example_road())
        for many, car in enumerate(TEN):
            self.assertEqual(len(live), many)
            live.join(*car)
        self.assertEqual(len(live), 10)

    def test_drive(self):
        live = live_with(example_road(), CARS)
        drive = live.drive()
        live.remove("tom")
        live.set_kind(0, "wide")
        self.assertEqual([drive["tom"], len(drive)], [(0, 60, 90, 150), 3])
        self.assertEqual(live.drive().losses(), Drive(example_road().widened(0), CARS[1:]).losses())

    def test_returned_values_may_be_changed(self):
        live = live_with(example_road(), CARS)
        live.history.clear()
        live.history.append(("remove", "tom"))
        changes = live.remove("tom")
        changes["ann"] = None
        del changes["bob"]
        self.assertEqual(live.history, [*[("join", *car) for car in CARS], ("remove", "tom")])
        self.assertTrue(live.undo())
        self.assertEqual(live.remove("tom"), {"ann": (90, 55), "bob": (120, 110)})

    def test_outcomes_again(self):
        live = live_with(example_road(), CARS)
        for _ in range(3):
            self.assertEqual(outcome(live.join, "tom", 10, 1), raises("InvalidName"))
            self.assertEqual(outcome(live.join, "eve", 9, 1), raises("InvalidNumber"))
            self.assertEqual(outcome(live.remove, "eve"), raises("UnknownCar", name="eve"))
            self.assertEqual(outcome(live.set_kind, 3, "wide"), raises("UnknownSection", index=3))
            self.assertEqual(outcome(live.set_kind, 2, "Wide"), raises("InvalidKind"))
            self.assertEqual(outcome(live.remove, "ann"), returns({}))
            live.undo()

    def test_arguments_may_be_of_any_kind(self):
        live = LiveRoad(short_road())
        for value in NOT_INTEGERS:
            self.assertEqual(outcome(live.join, "tom", value, 1), raises("InvalidNumber"))
            self.assertEqual(outcome(live.join, "tom", 0, value), raises("InvalidNumber"))
            self.assertEqual(outcome(live.join, value, value, value)[0], "raises")
            self.assertEqual(outcome(live.remove, value), raises("UnknownCar", name=value))
            self.assertEqual(outcome(live.set_kind, value, value), raises("UnknownSection", index=value))
        self.assert_same(live, short_road().sections, (), [])


if __name__ == "__main__":
    unittest.main()
