"""One car less against a second, plain computation, over many roads and cars."""

import itertools
import random
import unittest

from plain_driving import plain_ticks
from plain_influences import (
    plain_chain, plain_changed, plain_possible_hinderers, plain_real_hinderers, plain_removals, without,
)
from random_traffic import NAMES, random_cars, random_convoy, random_sections
from slowleaders.driving import Drive
from slowleaders.influences import (
    chain_between, changed_without, possible_hinderers, real_hinderers, unhappy_removals,
)
from slowleaders.roads import Road


class PlainInfluencesTest(unittest.TestCase):
    def check(self, sections, cars):
        road, told = Road(*sections), (sections, cars)
        for name, _, _ in cars:
            self.assertEqual(
                possible_hinderers(road, cars, name), plain_possible_hinderers(cars, name), told
            )
            self.assertEqual(
                real_hinderers(road, cars, name), plain_real_hinderers(sections, cars, name), told
            )
            self.assertEqual(
                list(changed_without(road, cars, name).items()),
                list(plain_changed(sections, cars, name).items()),
                told,
            )
        self.assertEqual(list(unhappy_removals(road, cars)), plain_removals(sections, cars), told)

    def test_small_roads_and_cars(self):
        sections = [("narrow", 1), ("narrow", 2), ("wide", 1)]
        cars = list(itertools.product([0, 2], [1, 2, 4]))
        for road in itertools.product(sections, repeat=2):
            for many in range(4):
                for chosen in itertools.product(cars, repeat=many):
                    self.check(road, tuple((name, *car) for name, car in zip(NAMES, chosen)))

    def test_crowded_roads(self):
        source = random.Random(11)
        for _ in range(250):
            self.check(random_sections(source, 12, 4), random_cars(source, 8, 12, 6))

    def test_ordinary_roads(self):
        source = random.Random(12)
        for _ in range(150):
            self.check(random_sections(source, 12, 99), random_cars(source, 10, 3000, 60))

    def test_convoys(self):
        source = random.Random(13)
        for _ in range(250):
            self.check(*random_convoy(source, 6))


class PlainChainsTest(unittest.TestCase):
    def check(self, sections, cars, lengths):
        road = Road(*sections)
        for name, _, _ in cars:
            for other, _, _ in cars:
                chain = chain_between(road, cars, name, other)
                self.assertEqual(chain, plain_chain(sections, cars, name, other), (sections, cars))
                lengths.add(len(chain or []))

    def test_crowded_roads(self):
        source = random.Random(14)
        for _ in range(120):
            self.check(random_sections(source, 8, 4), random_cars(source, 7, 12, 6), set())

    def test_ordinary_roads(self):
        source = random.Random(15)
        for _ in range(80):
            self.check(random_sections(source, 12, 60), random_cars(source, 8, 1000, 60), set())

    def test_convoys(self):
        source = random.Random(16)
        lengths = set()
        for _ in range(400):
            self.check(*random_convoy(source, 5), lengths)
        self.assertTrue({0, 2, 3} <= lengths)


class AgreementTest(unittest.TestCase):
    def check(self, sections, cars):
        road, drive = Road(*sections), Drive(Road(*sections), cars)
        paces = {name: pace for name, _, pace in cars}
        for name, _, _ in cars:
            possible = possible_hinderers(road, cars, name)
            real = real_hinderers(road, cars, name)
            self.assertTrue(set(real) <= set(possible))
            few = tuple(car for car in cars if car[0] in possible or car[0] == name)
            self.assertEqual(Drive(road, few)[name], drive[name])
            self.assertEqual(plain_ticks(sections, few)[name], drive[name])
            changed = changed_without(road, cars, name)
            for other, _, _ in cars:
                self.assertEqual(other in changed, name in real_hinderers(road, cars, other))
                chain = chain_between(road, cars, name, other)
                self.assertEqual(chain is None, other not in changed)
                if chain is not None:
                    self.check_chain(road, cars, chain, paces)
            for other, (arrival, less) in changed.items():
                self.assertEqual(arrival, drive(other))
                self.assertEqual(less, Drive(road, without(cars, name))(other))
                pair = (name, other)
                self.assertEqual(less > arrival, pair in list(unhappy_removals(road, cars)))

    def check_chain(self, road, cars, chain, paces):
        drives = [Drive(road, cars), Drive(road, without(cars, chain[0]))]
        changed = changed_without(road, cars, chain[0])
        for ahead, car in zip(chain, chain[1:]):
            self.assertIn(car, changed)
            self.assertLess(paces[car], paces[ahead])
            leaders = [
                drive.leader(car, section) for drive in drives for section in range(len(road.sections))
            ]
            self.assertIn(ahead, leaders)

    def test_agreement(self):
        source = random.Random(17)
        for _ in range(60):
            self.check(random_sections(source, 12, 5), random_cars(source, 6, 15, 8))
            self.check(random_sections(source, 12, 99), random_cars(source, 6, 2000, 60))
            self.check(*random_convoy(source, 5))


if __name__ == "__main__":
    unittest.main()
