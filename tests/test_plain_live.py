"""Live roads against a second, plain computation that keeps all states (points 12 and 13)."""

import random
import unittest
from fractions import Fraction
from math import gcd

from outcomes import outcome, returns
from plain_driving import plain_answers, plain_drive
from plain_live import PlainLive, plain_arrivals, plain_position
from random_operations import MALFORMED, random_operation
from random_traffic import in_order, random_cars, random_convoy, random_sections
from slowleaders.driving import Drive
from slowleaders.live import LiveRoad
from slowleaders.roads import Road
from test_plain_driving import answers


class Pair:
    """A live road and its plain copy, for which all is done alike."""

    def __init__(self, case, source, sections):
        self.case = case
        self.source = source
        self.live = LiveRoad(Road(*sections))
        self.plain = PlainLive(sections)
        self.steps = [("road", sections)]
        self.told = set()

    def same(self, found, expected):
        self.case.assertEqual(found, expected, self.steps)
        self.told.add(expected[1] if expected[0] == "raises" else "returns")

    def do(self, operation):
        """Execute an operation, by its method or by apply."""
        self.steps.append(operation)
        word, *arguments = operation
        self.same(outcome(getattr(self.live, word), *arguments), self.plain.execute(operation))

    def apply(self, *operations):
        self.steps.append(("apply", *operations))
        self.same(outcome(self.live.apply, *operations), self.plain.apply(*operations))

    def arrivals_after(self, *operations):
        self.steps.append(("arrivals_after", *operations))
        found, expected = outcome(self.live.arrivals_after, *operations), self.plain.arrivals_after(*operations)
        self.same(found, expected)
        if expected[0] == "returns":
            self.case.assertEqual(list(found[1].items()), list(expected[1].items()))

    def undo(self):
        self.steps.append("undo")
        self.same(outcome(self.live.undo), self.plain.undo())

    def redo(self):
        self.steps.append("redo")
        self.same(outcome(self.live.redo), self.plain.redo())

    def enter(self):
        self.steps.append("enter")
        expected = self.plain.enter()
        found = outcome(self.live.__enter__)
        # What a block gives is not compared.
        self.same(returns(None) if found[0] == "returns" else found, expected)

    def leave(self):
        self.steps.append("leave")
        self.live.__exit__(None, None, None)
        self.plain.leave()

    def check_state(self):
        cars, sections = self.plain.cars(), self.plain.sections()
        names = [name for name, _, _ in cars]
        self.case.assertEqual(self.live.present_cars, cars, self.steps)
        self.case.assertEqual(self.live.present_road.sections, sections, self.steps)
        self.case.assertEqual(self.live.history, self.plain.history(), self.steps)
        self.case.assertEqual(len(self.live), len(cars), self.steps)
        for name in ("tom", "ann", "x", "nobody"):
            self.case.assertEqual(name in self.live, name in names, self.steps)

    def check_drive(self):
        cars, sections = self.plain.cars(), self.plain.sections()
        drive = self.live.drive()
        self.case.assertEqual([(name, drive(name)) for name, _, _ in cars], plain_arrivals(sections, cars))
        self.case.assertEqual(answers(sections, self.live.present_cars), plain_answers(sections, cars), self.steps)

    def check_position(self):
        cars = self.plain.cars()
        names = [name for name, _, _ in cars] + ["nobody", None, []]
        name = self.source.choice(names)
        tick = self.source.choice([self.source.randint(0, 200), 0, 10 ** 9, 10 ** 9 + 1, -1, True, None])
        self.same(outcome(self.live.position, name, tick), self.plain.position(name, tick))

    def random_operations(self, share):
        """Return up to five operations; with a share, some are wrong or malformed."""
        plain = PlainLive(self.plain.sections())
        plain.states = [(list(self.plain.sections()), list(self.plain.cars()))]
        operations = []
        for _ in range(self.source.randint(0, 5)):
            operation = random_operation(self.source, *plain.states[plain.at], share)
            plain.execute(operation)
            operations.append(operation)
        if operations and self.source.random() < share:
            operations[self.source.randrange(len(operations))] = self.source.choice(MALFORMED)
        return operations

    def step(self, blocks):
        choice = self.source.random()
        share = self.source.choice([0.02, 0.3])
        if choice < 0.45:
            self.do(random_operation(self.source, self.plain.sections(), self.plain.cars(), share))
        elif choice < 0.6:
            self.apply(*self.random_operations(share))
        elif choice < 0.7:
            self.arrivals_after(*self.random_operations(share))
        elif choice < 0.82:
            self.undo()
        elif choice < 0.9:
            self.redo()
        elif blocks and choice < 0.93:
            self.enter()
        elif blocks and choice < 0.96 and self.plain.kept is not None:
            self.leave()
        else:
            self.check_position()


ALL_ERRORS = {
    "InvalidName", "InvalidNumber", "TooManyCars", "UnknownCar", "UnknownSection", "InvalidKind", "InvalidOperation",
}


class RandomStepsTest(unittest.TestCase):
    def check(self, seed, rounds, blocks):
        source = random.Random(seed)
        told = set()
        for _ in range(rounds):
            pair = Pair(self, source, random_sections(source, 6, 6))
            for _ in range(60):
                pair.step(blocks)
                pair.check_state()
                if source.random() < 0.1:
                    pair.check_drive()
            told |= pair.told
        return told

    def test_without_blocks(self):
        self.assertEqual(self.check(51, 120, False), ALL_ERRORS | {"returns"})

    def test_with_blocks(self):
        self.assertEqual(self.check(52, 120, True), ALL_ERRORS | {"returns", "AlreadyOpen"})

    def test_many_invalid_operations(self):
        source = random.Random(53)
        told = set()
        for _ in range(60):
            pair = Pair(self, source, random_sections(source, 12, 9))
            for _ in range(60):
                pair.do(random_operation(source, pair.plain.sections(), pair.plain.cars(), 0.3))
                pair.check_state()
            pair.check_drive()
            told |= pair.told
        self.assertEqual(told, ALL_ERRORS - {"InvalidOperation"} | {"returns"})

    def test_operations_one_by_one_and_at_once(self):
        source = random.Random(54)
        for _ in range(200):
            sections = random_sections(source, 6, 6)
            pair = Pair(self, source, sections)
            results = []
            for _ in range(source.randint(1, 25)):
                operation = random_operation(source, pair.plain.sections(), pair.plain.cars(), 0)
                result = outcome(getattr(pair.live, operation[0]), *operation[1:])
                pair.plain.execute(operation)
                if result[0] == "returns":
                    results.append(result[1])
            other = LiveRoad(Road(*sections))
            self.assertEqual(other.apply(*pair.live.history), results)
            third = LiveRoad.replay(Road(*sections), pair.live.history)
            for live in (other, third):
                pair.live = live
                pair.check_state()
            fourth = LiveRoad(Road(*sections))
            self.assertEqual(
                list(fourth.arrivals_after(*third.history).items()),
                plain_arrivals(pair.plain.sections(), pair.plain.cars()),
            )
            self.assertEqual((fourth.history, fourth.undo(), fourth.redo()), ([], False, False))

    def test_replay_of_lists_with_errors(self):
        source = random.Random(55)
        told = set()
        for _ in range(400):
            sections = random_sections(source, 4, 5)
            pair = Pair(self, source, sections)
            share = source.choice([0, 0.1, 0.3])
            operations = [
                operation for _ in range(source.randint(0, 4)) for operation in pair.random_operations(share)
            ]
            found = outcome(LiveRoad.replay, Road(*sections), operations)
            expected = pair.plain.apply(*operations)
            self.assertEqual(found[0], expected[0], operations)
            if found[0] == "raises":
                self.assertEqual(found, expected, operations)
            else:
                pair.live = found[1]
                pair.check_state()
                pair.check_drive()
            told.add(found[1] if found[0] == "raises" else "returns")
        self.assertTrue({"returns", "InvalidOperation", "InvalidName", "UnknownCar"} <= told)

    def test_undo_and_redo_of_all(self):
        source = random.Random(56)
        for _ in range(100):
            pair = Pair(self, source, random_sections(source, 5, 6))
            for _ in range(30):
                pair.do(random_operation(source, pair.plain.sections(), pair.plain.cars(), 0.02))
            for call in (pair.undo, pair.redo, pair.undo):
                for _ in range(len(pair.plain.operations) + 1):
                    call()
                    pair.check_state()


class PositionsTest(unittest.TestCase):
    def check(self, sections, cars, ticks):
        live = LiveRoad(Road(*sections))
        for car in cars:
            live.join(*car)
        for tick in ticks:
            for name, _, _ in cars:
                numerator, denominator = live.position(name, tick)
                self.assertEqual(Fraction(numerator, denominator), plain_position(sections, cars, name, tick))
                self.assertEqual(gcd(numerator, denominator), 1)
                self.assertGreater(denominator, 0)
            self.check_narrow_sections(sections, cars, live, tick)

    def check_narrow_sections(self, sections, cars, live, tick):
        """Nobody in a narrow section is ahead of a car that was ahead at its beginning."""
        ticks, orders, _ = plain_drive(sections, cars)
        for section, (kind, _) in enumerate(sections):
            if kind == "narrow":
                inside = [name for name in orders[section] if ticks[section][name] <= tick < ticks[section + 1][name]]
                found = [Fraction(*live.position(name, tick)) for name in inside]
                self.assertEqual(found, sorted(found, reverse=True), (sections, cars, tick))

    def passing_ticks(self, sections, cars):
        """Return the ticks at which cars pass places, and those beside them."""
        ticks, _, _ = plain_drive(sections, cars)
        found = {tick + by for passed in ticks for tick in passed.values() for by in (-1, 0, 1)}
        return sorted(tick for tick in found if tick >= 0)

    def test_all_ticks_of_short_roads(self):
        source = random.Random(61)
        for _ in range(60):
            sections, cars = random_sections(source, 4, 4), in_order(random_cars(source, 5, 12, 8))
            last = max([0, *[tick for _, tick in plain_arrivals(sections, cars)]])
            self.check(sections, cars, range(last + 2))

    def test_passed_places(self):
        source = random.Random(62)
        for _ in range(60):
            sections, cars = random_sections(source, 6, 20), in_order(random_cars(source, 8, 100, 60))
            self.check(sections, cars, self.passing_ticks(sections, cars))

    def test_convoys(self):
        source = random.Random(63)
        for _ in range(40):
            sections, cars = random_convoy(source, 6)
            self.check(sections, in_order(cars), self.passing_ticks(sections, in_order(cars)))

    def test_far_starts(self):
        source = random.Random(64)
        for _ in range(40):
            sections, cars = random_sections(source, 12, 99), in_order(random_cars(source, 6, 10 ** 6, 60))
            ticks = self.passing_ticks(sections, cars)
            self.check(sections, cars, [*source.sample(ticks, min(20, len(ticks))), 10 ** 9])

    def test_positions_at_places(self):
        source = random.Random(65)
        for _ in range(100):
            sections, cars = random_sections(source, 8, 9), in_order(random_cars(source, 10, 60, 20))
            live = LiveRoad(Road(*sections))
            live.apply(*[("join", *car) for car in cars])
            drive = Drive(Road(*sections), cars)
            for name, _, _ in cars:
                for place, tick in enumerate(drive[name]):
                    units = sum(length for _, length in sections[:place])
                    self.assertEqual(live.position(name, tick), (units, 1))


if __name__ == "__main__":
    unittest.main()
