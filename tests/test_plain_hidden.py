"""Hidden paces against a second, plain computation that tries all paces (point 14)."""

import random
import unittest

from outcomes import outcome
from plain_hidden import PACES, PlainHidden, plain_hidden_fault
from random_traffic import NAMES, random_cars, random_convoy, random_sections
from slowleaders.driving import Drive
from slowleaders.hidden import HiddenPace
from slowleaders.roads import Road
from wrong_values import NOT_INTEGERS

WRONG_NAMES = ["", "abcdefghi", "Eve", None, True, 0, (), [], ["tom"], "e1"]


class PlainHiddenTest(unittest.TestCase):
    def make(self, source, sections, cars, latest):
        """Return both hidden paces for a further car, and its true pace."""
        free = [name for name in [*NAMES, "eva", "x"] if name not in [other for other, _, _ in cars]]
        name, start, pace = source.choice(free), source.randint(0, latest), source.randint(1, 60)
        hidden, plain = HiddenPace(Road(*sections), cars, name, start), PlainHidden(sections, cars, name, start)
        return hidden, plain, Drive(Road(*sections), (*cars, (name, start, pace))), (name, pace)

    def check(self, hidden, plain):
        self.assertEqual(hidden.candidates, plain.candidates())
        self.assertEqual(hidden.history, plain.observations)
        for place in [*plain.places, -1, len(plain.places), None, True]:
            self.assertEqual(outcome(hidden.possible_ticks, place), plain.possible_ticks(place))
        self.assertEqual(hidden.best_place(), plain.best_place())

    def random_observation(self, source, plain, true, truth, share):
        """Return an observation of the true drive; with a share, of something else."""
        name = true[0]
        place = source.choice(plain.places)
        wrong = source.random() < share
        if source.random() < 0.5:
            ticks = [*plain.possible_ticks(place)[1], -1, 10 ** 9, 10 ** 9 + 1, *NOT_INTEGERS]
            return ("see", place, source.choice(ticks) if wrong else truth(name, place))
        order = truth.order_at(place)
        chosen = sorted(source.sample(range(len(order)), source.randint(0, len(order))))
        names = [order[at] for at in chosen]
        if wrong:
            source.shuffle(names)
            if source.random() < 0.3:
                names.append(source.choice([*names, "nobody", "", None, ["tom"]]))
            place = source.choice([place, place, -1, len(plain.places), None, True])
        return ("see_order", place, *names)

    def observe(self, hidden, plain, observation):
        word, *arguments = observation
        found = outcome(getattr(hidden, word), *arguments)
        self.assertEqual(found, plain.observe(observation), observation)
        return found[1] if found[0] == "raises" else "returns"

    def check_observations(self, seed, rounds, many, share, traffic):
        source = random.Random(seed)
        told = set()
        for _ in range(rounds):
            sections, cars, latest = traffic(source)
            hidden, plain, truth, true = self.make(source, sections, cars, latest)
            for _ in range(many):
                told.add(self.observe(hidden, plain, self.random_observation(source, plain, true, truth, share)))
                self.check(hidden, plain)
                if share == 0:
                    self.assertIn(true[1], hidden.candidates)
        return told

    def test_true_observations(self):
        told = self.check_observations(
            71, 60, 4, 0, lambda source: (random_sections(source, 5, 6), random_cars(source, 6, 60, 60), 60)
        )
        self.assertEqual(told, {"returns"})

    def test_wrong_observations(self):
        told = self.check_observations(
            72, 60, 8, 0.6, lambda source: (random_sections(source, 5, 6), random_cars(source, 6, 60, 60), 60)
        )
        self.assertEqual(told, {"returns", "Contradiction", "InvalidNumber", "UnknownCar"})

    def test_full_roads(self):
        told = self.check_observations(
            73, 20, 6, 0.3, lambda source: (random_sections(source, 12, 99), random_cars(source, 9, 3000, 60), 3000)
        )
        self.assertTrue({"returns", "Contradiction"} <= told)

    def test_convoys(self):
        told = self.check_observations(
            74, 30, 5, 0.3, lambda source: (*random_convoy(source, 8), 160)
        )
        self.assertTrue({"returns", "Contradiction"} <= told)

    def test_contradictions_come_where_no_pace_remains(self):
        source = random.Random(75)
        for _ in range(40):
            sections, cars = random_sections(source, 4, 5), random_cars(source, 5, 30, 30)
            hidden, plain, truth, true = self.make(source, sections, cars, 30)
            for place in plain.places:
                ticks = plain.possible_ticks(place)[1]
                for tick in {tick + by for tick in ticks for by in (-1, 0, 1)}:
                    if tick not in ticks and tick >= 0:
                        self.assertEqual(outcome(hidden.see, place, tick)[1], "Contradiction")
            self.assertEqual((hidden.candidates, hidden.history), (list(PACES), []))
            place = source.choice(plain.places)
            for tick in plain.possible_ticks(place)[1]:
                again = HiddenPace(Road(*sections), cars, *self.car_of(plain, truth))
                paces = [pace for pace in PACES if plain.driven[pace][0][place] == tick]
                self.assertEqual((again.see(place, tick), again.candidates), (len(paces), paces))

    def car_of(self, plain, truth):
        name = plain.names[-1]
        return name, truth(name, 0)

    def test_making(self):
        source = random.Random(76)
        told = set()
        for _ in range(600):
            cars = random_cars(source, 10, 50, 60)
            name = source.choice([*WRONG_NAMES, "x", "y", *NAMES])
            start = source.choice([0, 10 ** 6, 10 ** 6 + 1, -1, 5, 50, *NOT_INTEGERS])
            expected = plain_hidden_fault(cars, name, start)
            found = outcome(HiddenPace, Road(("narrow", 2)), cars, name, start)
            if expected is None:
                self.assertEqual(found[0], "returns", (cars, name, start))
            else:
                self.assertEqual(found, expected, (cars, name, start))
            told.add(found[1] if found[0] == "raises" else "returns")
        self.assertEqual(told, {"returns", "InvalidName", "InvalidNumber", "TooManyCars"})


if __name__ == "__main__":
    unittest.main()
