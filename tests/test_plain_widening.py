"""Widened roads and latest starts against a second, plain computation, over many roads and cars."""

import itertools
import random
import unittest

from plain_widening import (
    all_choices, moved, plain_arrival, plain_fewest, plain_harmful, plain_latest_start, plain_loser,
)
from random_traffic import NAMES, random_cars, random_convoy, random_sections
from slowleaders.driving import Drive
from slowleaders.roads import Road
from slowleaders.widening import fewest_widened, first_loser, harmful_widenings, latest_start


def told_losses(sections, cars):
    """Return losses about which the answers may change."""
    losses = set(Drive(Road(*sections), cars).losses().values())
    return sorted({0, 10 ** 6, *losses, *[loss - 1 for loss in losses if loss]})


class PlainWideningTest(unittest.TestCase):
    def check(self, sections, cars):
        road, told = Road(*sections), (sections, cars)
        self.assertEqual(harmful_widenings(road, cars), plain_harmful(sections, cars), told)
        for most in told_losses(sections, cars):
            fewest = fewest_widened(road, cars, most)
            self.assertEqual(fewest, plain_fewest(sections, cars, most), (most, told))
            for chosen in all_choices(sections):
                loser = first_loser(road, cars, most, *chosen)
                self.assertEqual(loser, plain_loser(sections, cars, most, chosen), (chosen, most, told))
                if len(chosen) < len(fewest):
                    self.assertIsNotNone(loser)
            self.assertIsNone(first_loser(road, cars, most, *fewest))

    def test_small_roads_and_cars(self):
        sections = [("narrow", 1), ("narrow", 2), ("wide", 1)]
        cars = list(itertools.product([0, 2], [1, 4]))
        for road in itertools.product(sections, repeat=2):
            for many in range(4):
                for chosen in itertools.product(cars, repeat=many):
                    self.check(road, tuple((name, *car) for name, car in zip(NAMES, chosen)))

    def test_crowded_roads(self):
        source = random.Random(21)
        for _ in range(150):
            self.check(random_sections(source, 6, 4), random_cars(source, 7, 12, 6))

    def test_ordinary_roads(self):
        source = random.Random(22)
        for _ in range(150):
            self.check(random_sections(source, 6, 99), random_cars(source, 7, 2000, 60))

    def test_convoys(self):
        source = random.Random(23)
        for _ in range(40):
            self.check(*random_convoy(source, 5))

    def test_first_losers_with_any_sections(self):
        source = random.Random(24)
        for _ in range(300):
            sections, cars = random_sections(source, 12, 9), random_cars(source, 10, 60, 20)
            chosen = [source.randrange(len(sections)) for _ in range(source.randint(0, 5))]
            most = source.choice([0, 0, 5, 20, 100])
            self.assertEqual(
                first_loser(Road(*sections), cars, most, *chosen),
                plain_loser(sections, cars, most, chosen),
                (sections, cars, chosen, most),
            )


class PlainStartsTest(unittest.TestCase):
    def check(self, sections, cars, deadlines):
        road = Road(*sections)
        for name, _, _ in cars:
            for deadline in deadlines:
                start = latest_start(road, cars, name, deadline)
                told = (sections, cars, name, deadline)
                self.assertEqual(start, plain_latest_start(sections, cars, name, deadline), told)
                latest = -1 if start is None else start
                for other in {0, latest // 2, latest - 1, latest, latest + 1, latest + 2}:
                    if 0 <= other <= 10 ** 6:
                        in_time = plain_arrival(sections, cars, name, other) <= deadline
                        self.assertEqual(in_time, other <= latest, (other, told))

    def test_crowded_roads(self):
        source = random.Random(25)
        for _ in range(60):
            deadlines = [source.randint(0, 120) for _ in range(3)]
            self.check(random_sections(source, 8, 4), random_cars(source, 7, 25, 6), deadlines)

    def test_ordinary_roads(self):
        source = random.Random(26)
        for _ in range(60):
            deadlines = [source.randint(0, 4000) for _ in range(2)]
            self.check(random_sections(source, 8, 20), random_cars(source, 6, 1500, 60), deadlines)

    def test_far_deadlines(self):
        source = random.Random(27)
        for _ in range(40):
            sections = random_sections(source, 6, 5)
            cars = tuple((name, 10 ** 6 - start, pace) for name, start, pace in random_cars(source, 6, 30, 9))
            deadlines = [10 ** 6 + source.randint(-30, 60), 10 ** 6 + source.randint(0, 200), 10 ** 7]
            self.check(sections, cars, deadlines)

    def test_deadlines_at_all_arrivals(self):
        source = random.Random(28)
        for _ in range(40):
            sections, cars = random_convoy(source, 4)
            arrivals = {Drive(Road(*sections), cars)(name) for name, _, _ in cars}
            self.check(sections, cars, sorted(arrivals | {tick - 1 for tick in arrivals}))


class LaterStartsTest(unittest.TestCase):
    def test_later_start_never_arrives_earlier(self):
        source = random.Random(29)
        for _ in range(60):
            sections, cars = random_sections(source, 10, 5), random_cars(source, 7, 30, 9)
            for name, _, _ in cars:
                arrivals = [Drive(Road(*sections), moved(cars, name, start))(name) for start in range(40)]
                self.assertEqual(arrivals, sorted(arrivals))


if __name__ == "__main__":
    unittest.main()
