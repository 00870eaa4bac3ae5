"""Rounds: point 11 of the document."""

import random
import unittest

from plain_repeating import enough_rounds, plain_rounds, plain_settled
from random_traffic import random_cars, random_convoy, random_sections
from slowleaders.driving import Drive
from slowleaders.errors import InvalidNumber
from slowleaders.repeating import Repeated
from slowleaders.roads import Road
from traffic_case import CARS, TEN, TEN_NAMES, TrafficCase, example_road, outside
from wrong_values import NOT_INTEGERS

PERIODS = outside(50, 10 ** 6)
ROUNDS = outside(0, 10 ** 18)
PLACES = [place for place in outside(0, 3) if place is not None]
# In a wide section of a length, ann overtakes the toms of several rounds.
LATE_ROAD = Road(("wide", 10), ("narrow", 10))
LATE_CARS = (("ann", 0, 1), ("tom", 1, 60))


class ExamplesTest(TrafficCase):
    def test_repeated(self):
        repeated = Repeated(example_road(), CARS, 50)
        self.assertEqual(
            [repeated("tom", 10 ** 18), repeated("ann", 0), repeated("ann", 0, 1)],
            [50000000000000000150, 90, 60],
        )

    def test_invalid_number(self):
        self.assert_number(Repeated, example_road(), CARS, 49)


class SettledTest(TrafficCase):
    def test_at_once(self):
        for period in (50, 51, 1000, 10 ** 6):
            repeated = Repeated(Road(("narrow", 10)), (("tom", 0, 4), ("ann", 5, 2)), period)
            self.assertEqual(repeated.settled_round, 0)
            for number in (0, 1, 2, 77, 10 ** 18):
                self.assertEqual(repeated("tom", number), number * period + 40)
                self.assertEqual(repeated("ann", number), number * period + 40)
                self.assertEqual(repeated("ann", number, 0), number * period + 5)

    def test_car_that_catches_up_with_the_round_before(self):
        repeated = Repeated(Road(("narrow", 10)), (("ann", 0, 1), ("tom", 1, 60)), 50)
        self.assertEqual(repeated.settled_round, 1)
        self.assertEqual([repeated("ann", number) for number in range(4)], [10, 601, 651, 701])
        self.assertEqual([repeated("tom", number) for number in range(4)], [601, 651, 701, 751])
        self.assertEqual(repeated("ann", 10 ** 18), 50 * 10 ** 18 + 551)

    def test_late(self):
        # Ann is behind the toms who are 12 rounds ahead, or more, at the end of the wide section.
        repeated = Repeated(LATE_ROAD, LATE_CARS, 50)
        self.assertEqual(repeated.settled_round, 12)
        for number in range(30):
            self.assertEqual(repeated("tom", number), 50 * number + 1201)
            self.assertEqual(repeated("ann", number, 1), 50 * number + 10)
            self.assertEqual(repeated("ann", number), 50 * number + (20 if number < 12 else 601))
        self.assertEqual(repeated("ann", 10 ** 18), 50 * 10 ** 18 + 601)

    def test_as_late_as_cars_can_meet(self):
        # Only the tom 13 rounds ahead is not overtaken, and leaves after 660 - 650 ticks.
        repeated = Repeated(Road(("wide", 10), ("narrow", 1)), (("ann", 0, 1), ("tom", 11, 60)), 50)
        self.assertEqual(repeated.settled_round, 13)
        for number in range(30):
            self.assertEqual(repeated("ann", number), 50 * number + (11 if number < 13 else 21))
            self.assertEqual(repeated("tom", number), 50 * number + 671)

    def test_longer_periods_settle_earlier(self):
        settled = [Repeated(LATE_ROAD, LATE_CARS, period).settled_round for period in (50, 100, 591, 592, 10 ** 6)]
        self.assertEqual(settled, [12, 6, 1, 1, 0])

    def test_middle_place_counts(self):
        # The mid of the round before holds fast up at the place 2 only; later, slow does so anyway.
        road = Road(("wide", 1), ("narrow", 3), ("wide", 1), ("narrow", 4))
        repeated = Repeated(road, (("slow", 0, 10), ("mid", 99, 20), ("fast", 45, 1)), 100)
        self.assertEqual(repeated.settled_round, 1)
        for number in (0, 1, 2, 3, 10 ** 18):
            self.assertEqual(repeated("fast", number, 2), 100 * number + (49 if number == 0 else 79))
            self.assertEqual(repeated("fast", number), 100 * number + 90)
            self.assertEqual(repeated("slow", number), 100 * number + 90)
            self.assertEqual(repeated("mid", number), 100 * number + 279)

    def test_several_waits(self):
        # The bobs wait for toms first, and then the anns for bobs that have waited.
        road = Road(("wide", 10), ("narrow", 10), ("wide", 10), ("narrow", 10))
        cars = (("ann", 0, 1), ("bob", 1, 20), ("tom", 2, 60))
        repeated = Repeated(road, cars, 50)
        self.assertEqual(repeated.settled_round, 24)
        numbers = (0, 8, 9, 16, 17, 23, 24, 25)
        self.assertEqual(
            [[repeated(name, number) - 50 * number for number in numbers] for name in ("bob", "ann")],
            [[801, 801, 1152, 1152, 1552, 1552, 1552, 1552], [40, 401, 401, 802, 802, 802, 1202, 1202]],
        )

    def test_no_cars(self):
        for period in (50, 10 ** 6):
            repeated = Repeated(example_road(), (), period)
            self.assertEqual(repeated.settled_round, 0)
            for number in (0, 10 ** 18, -1):
                self.assert_unknown("tom", repeated, "tom", number)

    def test_one_car(self):
        repeated = Repeated(example_road(), (("tom", 49, 60),), 50)
        self.assertEqual(repeated.settled_round, 0)
        for number in (0, 1, 10 ** 18):
            self.assertEqual(
                [repeated("tom", number, place) - 50 * number for place in range(4)], [49, 649, 949, 1549]
            )

    def test_ten_cars(self):
        repeated = Repeated(Road(("narrow", 5)), TEN, 50)
        drive = Drive(Road(("narrow", 5)), TEN)
        for name in TEN_NAMES:
            self.assertEqual(repeated(name, 0), drive(name))
        for name in TEN_NAMES[:5]:
            self.assertEqual(repeated(name, 10 ** 18), 50 * 10 ** 18 + 300)

    def test_long_road(self):
        # The slow car is on the road for 1425 rounds; all fast ones but the first follow one of them.
        road = Road(*[("narrow", 99)] * 12)
        repeated = Repeated(road, (("ann", 0, 1), ("tom", 1, 60)), 50)
        self.assertEqual(repeated.settled_round, 1)
        self.assertEqual(repeated("ann", 0), 1188)
        self.assertEqual(repeated("ann", 1), 1 + 60 * 1188)
        self.assertEqual(repeated("ann", 10 ** 18), 50 * (10 ** 18 - 1) + 1 + 60 * 1188)


class PlacesTest(TrafficCase):
    def test_places(self):
        repeated = Repeated(example_road(), CARS, 50)
        drive = Drive(example_road(), CARS)
        for name, _, _ in CARS:
            for place in range(4):
                self.assertEqual(repeated(name, 0, place), drive(name, place))
                self.assertEqual(repeated(name, 0, place=place), drive(name, place))
            self.assertEqual(repeated(name, 0), drive(name))
            self.assertEqual(repeated(name, 0, None), drive(name))
            for number in (0, 1, 10 ** 18):
                self.assertEqual(repeated(name, number, None), repeated(name, number, 3))
                self.assertEqual(repeated(name, number), repeated(name, number, 3))

    def test_first_place_is_the_start(self):
        repeated = Repeated(example_road(), CARS, 60)
        for name, start, _ in CARS:
            for number in (0, 1, 2, 10 ** 18):
                self.assertEqual(repeated(name, number, 0), 60 * number + start)


class PeriodsTest(TrafficCase):
    def test_limits(self):
        for period in (50, 10 ** 6):
            repeated = Repeated(example_road(), CARS, period)
            self.assertEqual(repeated("tom", 1), period + 150)
            self.assertEqual(repeated("tom", 10 ** 18), period * 10 ** 18 + 150)

    def test_wrong_periods(self):
        for period in PERIODS:
            with self.subTest(period=period):
                for cars in (CARS, TEN, ()):
                    self.assert_number(Repeated, example_road(), cars, period)

    def test_period_is_greater_than_all_starts(self):
        for start in (50, 51, 1000, 10 ** 6 - 1):
            for cars in ((("tom", start, 1),), (*CARS, ("eve", start, 5)), (("eve", start, 5), *CARS)):
                self.assert_number(Repeated, example_road(), cars, start)
                self.assert_number(Repeated, example_road(), cars, start - 1)
                repeated = Repeated(example_road(), cars, start + 1)
                self.assertEqual(repeated(cars[0][0], 2, 0), 2 * (start + 1) + cars[0][1])
        self.assert_number(Repeated, example_road(), (("tom", 10 ** 6, 1),), 10 ** 6)
        self.assert_number(Repeated, example_road(), (("tom", 10 ** 6, 1),), 10 ** 6 + 1)
        self.assert_number(Repeated, example_road(), (("tom", 49, 1),), 49)


class ErrorsTest(TrafficCase):
    def test_invalid_cars(self):
        for period in (50, 49, None):
            self.check_invalid_cars(lambda cars: Repeated(example_road(), cars, period))

    def test_unknown_cars(self):
        repeated = Repeated(example_road(), CARS, 50)
        self.check_unknown_cars(lambda name: repeated(name, 0))
        self.check_unknown_cars(lambda name: repeated(name, -1))
        self.check_unknown_cars(lambda name: repeated(name, 0, 4))
        self.check_unknown_cars(lambda name: repeated(name, None, None))

    def test_missing_rounds(self):
        repeated = Repeated(example_road(), CARS, 50)
        for number in ROUNDS:
            with self.subTest(number=number):
                for place in (0, 3, None, 4):
                    self.assert_number(repeated, "tom", number, place)
                self.assert_number(repeated, "tom", number)

    def test_missing_places(self):
        repeated = Repeated(example_road(), CARS, 50)
        for place in PLACES:
            with self.subTest(place=place):
                for number in (0, 10 ** 18, -1):
                    self.assert_number(repeated, "tom", number, place)

    def test_errors_change_nothing(self):
        repeated = Repeated(example_road(), CARS, 50)
        for arguments in (("tom", -1), ("tom", 0, 9), ("tom", None)):
            with self.assertRaises(InvalidNumber):
                repeated(*arguments)
            self.assert_unknown("eve", repeated, "eve", 0)
        self.assertEqual([repeated("tom", 0), repeated("ann", 0, 1)], [150, 60])

    def test_equal_calls(self):
        for _ in range(2):
            repeated = Repeated(LATE_ROAD, LATE_CARS, 50)
            for _ in range(2):
                self.assertEqual([repeated.settled_round, repeated("ann", 11), repeated("ann", 12)], [12, 570, 1201])


class PlainRoundsTest(TrafficCase):
    def check(self, sections, cars, period):
        repeated, told = Repeated(Road(*sections), cars, period), (sections, cars, period)
        many = enough_rounds(sections, cars, period)
        rounds = plain_rounds(sections, cars, period, many + 2)
        self.assertEqual(repeated.settled_round, plain_settled(rounds), told)
        for number in [*range(many + 2), many + 7, 10 ** 6, 10 ** 18 - 1, 10 ** 18]:
            known = rounds[min(number, many + 1)]
            for name, _, _ in cars:
                ticks = tuple(repeated(name, number, place) for place in range(len(sections) + 1))
                begin = number * period
                self.assertEqual(ticks, tuple(begin + tick for tick in known[name]), (name, number, told))
        return repeated.settled_round

    def test_crowded_roads(self):
        source = random.Random(41)
        settled = [
            self.check(random_sections(source, 6, 8), random_cars(source, 4, 49, 20), 50) for _ in range(150)
        ]
        self.assertTrue({0, 1, 2} <= set(settled))

    def test_other_periods(self):
        source = random.Random(42)
        for _ in range(150):
            cars = random_cars(source, 5, source.choice([10, 49, 200]), 30)
            latest = max([49, *[start for _, start, _ in cars]])
            self.check(random_sections(source, 6, 9), cars, latest + source.randint(1, 60))

    def test_long_waits(self):
        source = random.Random(43)
        settled = []
        for _ in range(150):
            sections = random_sections(source, 6, 20)
            settled.append(self.check(sections, random_cars(source, 3, 49, 60), 50))
        self.assertGreater(max(settled), 15)

    def test_convoys(self):
        source = random.Random(44)
        for _ in range(60):
            sections, cars = random_convoy(source, 3)
            self.check(sections, cars, max([start for _, start, _ in cars] + [49]) + 1)

    def test_whole_drives(self):
        # Up to ten cars, the rounds are one drive of the package, too.
        source = random.Random(45)
        for _ in range(150):
            sections, cars = random_sections(source, 6, 12), random_cars(source, 3, 49, 60)
            repeated = Repeated(Road(*sections), cars, 50)
            letters = "abc"
            written_out = tuple(
                (letters[number] + name[:7], 50 * number + start, pace)
                for number in range(3)
                for name, start, pace in cars
            )
            drive = Drive(Road(*sections), written_out)
            for number in range(3):
                for name, _, _ in cars:
                    ticks = tuple(repeated(name, number, place) for place in range(len(sections) + 1))
                    self.assertEqual(ticks, drive[letters[number] + name[:7]], (sections, cars))


if __name__ == "__main__":
    unittest.main()
