"""Whole drives against a second, plain computation, over many roads and cars."""

import itertools
import random
import unittest

from plain_driving import plain_answers
from random_traffic import NAMES, random_cars, random_sections
from slowleaders.driving import Drive
from slowleaders.roads import Road


def answers(sections, cars):
    """Return all that a drive tells, in the form of plain_answers."""
    drive = Drive(Road(*sections), cars)
    names = [name for name, _, _ in cars]
    section_numbers = range(len(sections))
    return {
        "ticks": [drive[name] for name in names],
        "orders": [drive.order_at(place) for place in range(len(sections) + 1)],
        "leaders": [[drive.leader(name, section) for name in names] for section in section_numbers],
        "rows": [drive.rows_of(section) for section in section_numbers],
        "overtakings": list(drive.overtakings()),
        "losses": list(drive.losses().items()),
    }


class PlainDrivingTest(unittest.TestCase):
    def check(self, sections, cars):
        self.assertEqual(answers(sections, cars), plain_answers(sections, cars), (sections, cars))

    def test_small_roads_and_cars(self):
        sections = list(itertools.product(["narrow", "wide"], [1, 2]))
        cars = list(itertools.product([0, 1, 3], [1, 2, 4]))
        for road in [*itertools.product(sections, repeat=1), *itertools.product(sections, repeat=2)]:
            for many in range(4):
                for chosen in itertools.product(cars, repeat=many):
                    named = tuple((name, *car) for name, car in zip(NAMES, chosen))
                    self.check(road, named)

    def test_crowded_roads(self):
        source = random.Random(1)
        for _ in range(1500):
            self.check(random_sections(source, 12, 4), random_cars(source, 10, 12, 6))

    def test_ordinary_roads(self):
        source = random.Random(2)
        for _ in range(1500):
            self.check(random_sections(source, 12, 99), random_cars(source, 10, 5000, 60))

    def test_far_starts(self):
        source = random.Random(3)
        for _ in range(500):
            self.check(random_sections(source, 12, 99), random_cars(source, 10, 10 ** 6, 60))

    def test_ends_of_all_limits(self):
        source = random.Random(4)
        for _ in range(500):
            kinds = [source.choice(["narrow", "wide"]) for _ in range(source.choice([1, 12]))]
            sections = [(kind, source.choice([1, 99])) for kind in kinds]
            names = source.sample(NAMES, 10)
            starts = [source.choice([0, 10 ** 6 - 1, 10 ** 6]) for _ in names]
            cars = tuple((name, start, source.choice([1, 60])) for name, start in zip(names, starts))
            self.check(sections, cars)

    def test_adjacent_sections_of_one_kind(self):
        source = random.Random(5)
        for kind in ("narrow", "wide"):
            for _ in range(300):
                sections = [(kind, source.randint(1, 6)) for _ in range(source.randint(2, 12))]
                self.check(sections, random_cars(source, 10, 30, 10))


if __name__ == "__main__":
    unittest.main()
