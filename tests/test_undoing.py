"""Live roads: undoing, several operations at once, and blocks (point 13 of the document)."""

import unittest

from live_case import LiveCase, live_with, short_road
from outcomes import outcome, raises, returns
from slowleaders.errors import (
    AlreadyOpen, InvalidKind, InvalidName, InvalidNumber, InvalidOperation, TooManyCars, UnknownCar,
    UnknownSection,
)
from slowleaders.live import LiveRoad
from slowleaders.roads import Road
from traffic_case import CARS, TEN, example_road

JOINS = tuple(("join", *car) for car in CARS)
NOT_OPERATIONS = [
    True, False, None, 0, 1, "", "join", "undo", (), [], [()], ("join",), ("join", "a"), ("join", "a", 0),
    ("join", "a", 0, 3, 0), ("join", ("a", 0, 3)), ("remove",), ("remove", "a", "b"), ("set_kind",),
    ("set_kind", 0), ("set_kind", 0, "wide", 1), ["join", "a", 0, 3], ["remove", "a"], [("remove", "a")],
    ("leave", "a"), ("Join", "a", 0, 3), ("join ", "a", 0, 3), ("", "a"), ("undo",), ("redo",), ("apply",),
    ("apply", ("remove", "a")), ("position", "a", 0), ("drive",), ("replay", 0, []), ("history",),
    ("arrivals_after",), (True, "a"), (None, "a"), (1, "a"), (["remove"], "a"), (("remove",), "a"),
    (("remove", "a"),), ("a", "remove"), ("__len__",), ("_remove", "a"), ("setkind", 0, "wide"),
]
# Operations of the right form that raise errors on the example's road with its cars.
FAILING = [
    (("join", "tom", 10, 1), InvalidName), (("join", "Eve", 10, 1), InvalidName),
    (("join", None, 10, 1), InvalidName), (("join", "eve", 9, 1), InvalidNumber),
    (("join", "eve", 10, 0), InvalidNumber), (("join", "eve", 10, 61), InvalidNumber),
    (("join", "eve", True, 1), InvalidNumber), (("remove", "eve"), UnknownCar), (("remove", ["tom"]), UnknownCar),
    (("remove", None), UnknownCar), (("set_kind", 3, "wide"), UnknownSection),
    (("set_kind", -1, "wide"), UnknownSection), (("set_kind", False, "wide"), UnknownSection),
    (("set_kind", 0, "Wide"), InvalidKind), (("set_kind", 0, None), InvalidKind),
]


class BlockError(Exception):
    """An error within a block, for the tests."""


class ExamplesTest(LiveCase):
    def test_undo(self):
        live = LiveRoad(short_road())
        self.assertEqual(
            [live.apply(("join", "a", 0, 3), ("join", "b", 10, 1)), live.undo(), live.undo(), live.undo(),
             live.redo(), live.history],
            [[60, 40], True, True, False, True, [("join", "a", 0, 3)]],
        )

    def test_invalid_operation(self):
        live = LiveRoad(short_road())
        self.assertEqual(
            outcome(live.apply, ("join", "a", 0, 3), ("leave", "a")), raises("InvalidOperation", index=1)
        )

    def test_arrivals_after(self):
        live = LiveRoad(short_road())
        self.assertEqual([live.arrivals_after(("join", "a", 0, 3)), len(live)], [{"a": 60}, 0])

    def test_replay(self):
        self.assertEqual(LiveRoad.replay(short_road(), [("join", "a", 0, 3)]).present_cars, (("a", 0, 3),))


class UndoTest(LiveCase):
    def test_nothing_to_undo_or_redo(self):
        live = LiveRoad(example_road())
        for _ in range(2):
            self.assertIs(live.undo(), False)
            self.assertIs(live.redo(), False)
        self.assert_same(live, example_road().sections, (), [])

    def test_all_states(self):
        live = live_with(example_road(), CARS)
        live.set_kind(0, "wide")
        live.remove("ann")
        live.set_kind(0, "narrow")
        states = []
        for _ in range(6):
            states.append((live.present_road.sections, live.present_cars, live.history))
            self.assertIs(live.undo(), True)
        self.assert_same(live, example_road().sections, (), [])
        self.assertIs(live.undo(), False)
        for state in reversed(states):
            self.assertIs(live.redo(), True)
            self.assert_same(live, *state)
        self.assertIs(live.redo(), False)

    def test_order_after_a_removal_is_undone(self):
        live = live_with(example_road(), CARS)
        live.remove("tom")
        live.undo()
        self.assert_same(live, example_road().sections, CARS, list(JOINS))

    def test_redo_in_the_middle(self):
        live = live_with(example_road(), CARS)
        live.undo()
        live.undo()
        live.redo()
        self.assertEqual(live.present_cars, CARS[:2])
        live.undo()
        self.assertEqual(live.present_cars, CARS[:1])
        live.redo()
        live.redo()
        self.assertEqual(live.present_cars, CARS)

    def test_redo_after_another_operation(self):
        for operation in (("join", "eve", 10, 1), ("remove", "tom"), ("set_kind", 1, "wide"), JOINS[2]):
            live = live_with(example_road(), CARS)
            live.undo()
            live.apply(operation)
            self.assertIs(live.redo(), False)
            self.assertEqual(live.history, [*JOINS[:2], operation])
            live.undo()
            self.assertIs(live.redo(), True)
            self.assertEqual(live.history, [*JOINS[:2], operation])
            self.assertIs(live.redo(), False)

    def test_redo_after_an_error(self):
        for operation, error in FAILING:
            live = live_with(example_road(), (*CARS, ("kim", 10, 9)))
            live.undo()
            for call in (
                lambda: getattr(live, operation[0])(*operation[1:]),
                lambda: live.apply(operation),
                lambda: live.arrivals_after(operation),
            ):
                with self.assertRaises(error):
                    call()
            self.assertIs(live.redo(), True)
            self.assertEqual(live.present_cars, (*CARS, ("kim", 10, 9)))

    def test_redo_after_apply_without_operations(self):
        live = live_with(example_road(), CARS)
        live.undo()
        self.assertEqual(live.apply(), [])
        self.assertEqual(live.history, list(JOINS[:2]))
        self.assertIs(live.redo(), True)
        self.assertEqual(live.history, list(JOINS))

    def test_redo_after_apply_that_raised(self):
        live = live_with(example_road(), CARS)
        live.undo()
        for operations in ((("remove", "tom"), ("remove", "tom")), (("remove", "tom"), ("leave",)), (None,)):
            self.assertEqual(outcome(live.apply, *operations)[0], "raises")
            self.assert_same(live, example_road().sections, CARS[:2], list(JOINS[:2]))
        self.assertIs(live.redo(), True)
        self.assertIs(live.redo(), False)

    def test_redo_after_questions(self):
        live = live_with(example_road(), CARS)
        live.undo()
        live.drive()
        live.position("tom", 3)
        live.arrivals_after(("remove", "tom"))
        self.assertEqual([len(live), "bob" in live, live.history], [2, False, list(JOINS[:2])])
        self.assertIs(live.redo(), True)

    def test_operations_of_one_apply_are_undone_one_by_one(self):
        live = LiveRoad(example_road())
        live.apply(*JOINS, ("set_kind", 0, "wide"))
        for many in (3, 2, 1, 0):
            self.assertIs(live.undo(), True)
            self.assertEqual(live.history, list(JOINS[:many]))
        self.assertIs(live.undo(), False)

    def test_operations_without_effect_are_undone_too(self):
        live = LiveRoad(example_road())
        live.set_kind(0, "narrow")
        self.assertIs(live.undo(), True)
        self.assertIs(live.undo(), False)
        self.assertIs(live.redo(), True)
        self.assertEqual(live.history, [("set_kind", 0, "narrow")])

    def test_arguments_after_a_redo(self):
        live = LiveRoad(short_road())
        live.join("a", 0, 3)
        live.undo()
        live.redo()
        self.assertEqual(live.join("b", 10, 1), 40)
        self.assertEqual(live.present_cars, (("a", 0, 3), ("b", 10, 1)))


class ApplyTest(LiveCase):
    def test_results(self):
        live = LiveRoad(short_road())
        results = live.apply(
            ("join", "a", 0, 3), ("join", "b", 10, 1), ("set_kind", 0, "wide"), ("remove", "b"), ("remove", "a"),
        )
        self.assertEqual(results, [60, 40, {"b": (40, 30)}, {}, {}])
        self.assertEqual(LiveRoad(short_road()).apply(), [])

    def test_not_operations(self):
        for wrong in NOT_OPERATIONS:
            with self.subTest(wrong=wrong):
                live = live_with(example_road(), CARS)
                live.undo()
                for operations, index in (
                    ((wrong,), 0), ((wrong, None), 0), ((("remove", "tom"), wrong), 1),
                    ((("remove", "tom"), ("remove", "tom"), wrong, ("join",)), 2),
                    ((("join", "tom", -1, 0), ("set_kind", 9, 9), wrong), 2),
                ):
                    for call in (live.apply, live.arrivals_after):
                        self.assertEqual(outcome(call, *operations), raises("InvalidOperation", index=index))
                    self.assertEqual(
                        outcome(LiveRoad.replay, example_road(), list(operations)),
                        raises("InvalidOperation", index=index),
                    )
                self.assert_same(live, example_road().sections, CARS[:2], list(JOINS[:2]))
                self.assertIs(live.redo(), True)

    def test_error_in_the_middle(self):
        for operation, error in FAILING:
            for before in ((), (("set_kind", 1, "narrow"),), (("set_kind", 1, "narrow"), ("join", "kim", 10, 9))):
                for after in ((), (("set_kind", 1, "narrow"),), (("remove", "nobody"),)):
                    live = live_with(example_road(), CARS)
                    with self.assertRaises(error):
                        live.apply(*before, operation, *after)
                    self.assert_same(live, example_road().sections, CARS, list(JOINS))
                    self.assertIs(live.redo(), False)

    def test_operations_that_depend_on_earlier_ones(self):
        live = live_with(example_road(), CARS)
        self.assertEqual(
            outcome(live.apply, ("remove", "bob"), ("join", "bob", 5, 1), ("remove", "bob"), ("remove", "bob")),
            raises("UnknownCar", name="bob"),
        )
        self.assertEqual(
            live.apply(("remove", "bob"), ("join", "bob", 5, 1), ("remove", "bob"), ("join", "bob", 10, 4)),
            [{}, 75, {}, 120],
        )
        self.assertEqual(live.present_cars, CARS)

    def test_eleven_cars_at_once(self):
        live = LiveRoad(example_road())
        joins = [("join", *car) for car in TEN]
        with self.assertRaises(TooManyCars):
            live.apply(*joins, ("join", "tom", 36, 1))
        self.assert_same(live, example_road().sections, (), [])
        live.apply(*joins)
        self.assertEqual(live.present_cars, TEN)

    def test_passed_values_are_not_kept(self):
        operations = [("join", *car) for car in CARS]
        live = LiveRoad(example_road())
        live.apply(*operations)
        other = LiveRoad.replay(example_road(), operations)
        operations.clear()
        self.assertEqual(live.history, list(JOINS))
        self.assertEqual(other.history, list(JOINS))

    def test_returned_list_is_not_kept(self):
        live = LiveRoad(short_road())
        results = live.apply(("join", "a", 0, 3), ("join", "b", 10, 1), ("set_kind", 0, "wide"))
        results[2]["b"] = 0
        results.clear()
        live.undo()
        live.undo()
        self.assertEqual(live.apply(("join", "b", 10, 1), ("set_kind", 0, "wide")), [40, {"b": (40, 30)}])


class ReplayTest(LiveCase):
    def test_history(self):
        live = live_with(example_road(), CARS)
        live.set_kind(0, "wide")
        live.remove("tom")
        other = LiveRoad.replay(example_road(), live.history)
        self.assert_same(other, live.present_road.sections, CARS[1:], live.history)
        self.assertIs(other.redo(), False)
        for _ in live.history:
            self.assertIs(other.undo(), True)
        self.assert_same(other, example_road().sections, (), [])

    def test_no_operations(self):
        live = LiveRoad.replay(example_road(), [])
        self.assert_same(live, example_road().sections, (), [])
        self.assertEqual([live.undo(), live.redo()], [False, False])
        self.assertIs(type(live), LiveRoad)

    def test_errors(self):
        for operation, error in FAILING:
            with self.assertRaises(error):
                LiveRoad.replay(example_road(), [*JOINS, operation, ("remove", "tom")])
        self.assertEqual(
            outcome(LiveRoad.replay, example_road(), [("remove", "tom"), ("remove",)]),
            raises("InvalidOperation", index=1),
        )

    def test_off_an_object(self):
        live = live_with(example_road(), CARS)
        other = live.replay(short_road(), [("join", "a", 0, 3)])
        self.assertEqual([other.present_cars, live.present_cars], [(("a", 0, 3),), CARS])


class BlockTest(LiveCase):
    def check_block(self, live, change):
        """Leave a block after some changes, and expect all as before, with one operation to redo."""
        before = (live.present_road.sections, live.present_cars, live.history)
        with live:
            change(live)
        self.assert_same(live, *before)
        with self.assertRaises(BlockError), live:
            change(live)
            raise BlockError
        self.assert_same(live, *before)
        self.assertIs(live.redo(), True)
        self.assertIs(live.redo(), False)
        for _ in range(len(before[2]) + 1):
            self.assertIs(live.undo(), True)
        self.assertIs(live.undo(), False)

    def blocked_live(self):
        live = live_with(example_road(), (*CARS, ("kim", 10, 9)))
        live.undo()
        return live

    def test_nothing_done(self):
        self.check_block(self.blocked_live(), lambda live: None)

    def test_operations(self):
        for operation in (("join", "eve", 10, 1), ("remove", "tom"), ("set_kind", 0, "wide")):
            self.check_block(self.blocked_live(), lambda live: getattr(live, operation[0])(*operation[1:]))
            self.check_block(self.blocked_live(), lambda live: live.apply(operation, ("set_kind", 0, "wide")))

    def test_redo_and_undo(self):
        self.check_block(self.blocked_live(), lambda live: live.redo())
        self.check_block(self.blocked_live(), lambda live: live.undo())
        self.check_block(self.blocked_live(), lambda live: [live.undo() for _ in range(9)])
        self.check_block(self.blocked_live(), lambda live: [live.undo(), live.undo(), live.redo()])
        self.check_block(self.blocked_live(), lambda live: [live.undo(), live.undo(), live.remove("tom")])

    def test_undo_of_operations_from_ahead_of_the_block(self):
        live = live_with(example_road(), CARS)
        with live:
            live.set_kind(0, "wide")
            for cars in (CARS, CARS[:2], CARS[:1], ()):
                self.assertIs(live.undo(), True)
                self.assertEqual((live.present_cars, live.present_road.sections), (cars, example_road().sections))
            self.assertIs(live.undo(), False)
            live.join("eve", 0, 1)
        self.assert_same(live, example_road().sections, CARS, list(JOINS))
        self.assertIs(live.redo(), False)

    def test_package_errors_in_blocks(self):
        for operation, error in FAILING:
            live = live_with(example_road(), CARS)
            with self.assertRaises(error), live:
                live.remove("ann")
                live.undo()
                live.apply(operation)
            self.assert_same(live, example_road().sections, CARS, list(JOINS))
            self.assertIs(live.redo(), False)

    def test_errors_that_are_caught_within(self):
        live = live_with(example_road(), CARS)
        with live:
            live.remove("tom")
            with self.assertRaises(UnknownCar):
                live.remove("tom")
            self.assertEqual(live.present_cars, CARS[1:])
        self.assertEqual(live.present_cars, CARS)

    def test_block_within_another_one(self):
        live = live_with(example_road(), CARS)
        with live:
            live.remove("tom")
            with self.assertRaises(AlreadyOpen):
                with live:
                    self.fail("this block is not entered")
            self.assert_same(live, example_road().sections, CARS[1:], [*JOINS, ("remove", "tom")])
            live.remove("ann")
            with self.assertRaises(AlreadyOpen):
                with live:
                    self.fail("this block is not entered")
        self.assert_same(live, example_road().sections, CARS, list(JOINS))

    def test_error_of_a_block_within_another_one(self):
        live = live_with(example_road(), CARS)
        with self.assertRaises(AlreadyOpen):
            with live:
                live.remove("tom")
                with live:
                    self.fail("this block is not entered")
        self.assert_same(live, example_road().sections, CARS, list(JOINS))
        self.check_unchanged_block(live)

    def check_unchanged_block(self, live):
        with live:
            live.apply(("remove", "tom"))
            self.assertEqual(live.present_cars, CARS[1:])
        self.assertEqual(live.present_cars, CARS)

    def test_blocks_one_after_another(self):
        live = live_with(example_road(), CARS)
        for _ in range(3):
            self.check_unchanged_block(live)
        live.set_kind(0, "wide")
        self.check_unchanged_block(live)
        self.assertEqual(live.history, [*JOINS, ("set_kind", 0, "wide")])
        live.undo()
        self.check_unchanged_block(live)
        self.assertIs(live.redo(), True)

    def test_blocks_of_two_live_roads(self):
        live, other = live_with(example_road(), CARS), live_with(short_road(), CARS)
        with live:
            live.remove("tom")
            with other:
                other.remove("ann")
                live.remove("ann")
            self.assertEqual((live.present_cars, other.present_cars), (CARS[2:], CARS))
        self.assertEqual((live.present_cars, other.present_cars), (CARS, CARS))

    def test_errors_are_not_swallowed(self):
        live = LiveRoad(example_road())
        for error in (BlockError, KeyError, KeyboardInterrupt):
            with self.assertRaises(error), live:
                raise error

    def test_return_out_of_a_block(self):
        live = live_with(example_road(), CARS)

        def arrival():
            with live:
                live.remove("tom")
                return live.drive()("ann")

        self.assertEqual([arrival(), arrival()], [55, 55])
        self.assertEqual(live.present_cars, CARS)


class ArrivalsAfterTest(LiveCase):
    def test_arrivals(self):
        live = live_with(example_road(), CARS)
        self.assertEqual(list(live.arrivals_after().items()), [("tom", 150), ("ann", 90), ("bob", 120)])
        self.assertEqual(list(live.arrivals_after(("remove", "tom")).items()), [("ann", 55), ("bob", 110)])
        self.assertEqual(
            list(live.arrivals_after(("remove", "tom"), ("set_kind", 1, "narrow"), ("join", "aa", 10, 1)).items()),
            [("ann", 55), ("bob", 110), ("aa", 110)],
        )
        self.assertEqual(live.arrivals_after(*[("remove", name) for name in ("tom", "ann", "bob")]), {})
        self.assert_same(live, example_road().sections, CARS, list(JOINS))
        self.assertEqual(LiveRoad(example_road()).arrivals_after(), {})

    def test_redo_stays(self):
        live = live_with(example_road(), CARS)
        live.undo()
        live.arrivals_after(("remove", "tom"))
        live.arrivals_after()
        self.assert_same(live, example_road().sections, CARS[:2], list(JOINS[:2]))
        self.assertIs(live.redo(), True)

    def test_errors(self):
        live = live_with(example_road(), CARS)
        for operation, error in FAILING:
            with self.assertRaises(error):
                live.arrivals_after(("set_kind", 0, "wide"), operation)
            self.assert_same(live, example_road().sections, CARS, list(JOINS))
        self.assertEqual(outcome(live.arrivals_after, None), raises("InvalidOperation", index=0))
        # No error leaves a block open.
        self.assertEqual(outcome(live.arrivals_after)[0], "returns")
        with live:
            live.remove("tom")

    def test_within_a_block(self):
        live = live_with(example_road(), CARS)
        with live:
            live.remove("tom")
            for operations in ((), (("remove", "ann"),), (None,), (("remove", "eve"),), (("join",), ("leave",))):
                self.assertEqual(outcome(live.arrivals_after, *operations), raises("AlreadyOpen"))
            self.assertEqual(live.present_cars, CARS[1:])
            with self.assertRaises(AlreadyOpen):
                live.arrivals_after()
        self.assertEqual(outcome(live.arrivals_after), returns({"tom": 150, "ann": 90, "bob": 120}))

    def test_returned_dict_is_not_kept(self):
        live = live_with(example_road(), CARS)
        live.arrivals_after().clear()
        self.assertEqual(live.arrivals_after(), {"tom": 150, "ann": 90, "bob": 120})


class HistoryTest(LiveCase):
    def test_operations_in_effect(self):
        live = LiveRoad(Road(("narrow", 5)))
        live.join("a", 0, 3)
        self.assertEqual(live.history, [("join", "a", 0, 3)])
        live.set_kind(0, "wide")
        live.undo()
        live.remove("a")
        self.assertEqual(live.history, [("join", "a", 0, 3), ("remove", "a")])
        with self.assertRaises(InvalidOperation):
            live.apply(("join", "b"))
        self.assertEqual(live.history, [("join", "a", 0, 3), ("remove", "a")])

    def test_new_list_each_time(self):
        live = live_with(example_road(), CARS)
        self.assertIsNot(live.history, live.history)
        live.history.pop()
        live.history[0] = None
        self.assertEqual(live.history, list(JOINS))
        live.undo()
        live.history.extend([1, 2])
        self.assertEqual(live.history, list(JOINS[:2]))
        self.assertIs(live.redo(), True)


if __name__ == "__main__":
    unittest.main()
