"""The results of all files agree with each other, and repeated calls with each other (promises 28, 29, 33)."""

import copy
import random
import unittest

from live_case import live_with, short_road
from outcomes import outcome
from plain_driving import plain_ticks
from plain_notation import plain_timetable
from plain_reading import plain_arrivals
from random_traffic import in_order, random_cars, random_convoy, random_sections
from slowleaders.codec import decode_traffic, encode_traffic, pack_bytes, unpack_bytes
from slowleaders.comparing import parting_cars
from slowleaders.driving import Drive
from slowleaders.errors import RoadError
from slowleaders.hidden import HiddenPace, read_road, reading_arrivals, reading_cars
from slowleaders.influences import (
    chain_between, changed_without, possible_hinderers, real_hinderers, unhappy_removals,
)
from slowleaders.live import LiveRoad
from slowleaders.notation import format_traffic, parse_traffic, timetable
from slowleaders.repeating import Repeated
from slowleaders.roads import Road
from slowleaders.widening import fewest_widened, first_loser, harmful_widenings, latest_start
from test_plain_driving import answers
from traffic_case import CARS, TEN, TrafficCase, example_road


def some_traffic(seed, many):
    """Yield sections and cars of different kinds; the cars are in the order of their starts."""
    source = random.Random(seed)
    for at in range(many):
        if at % 4 == 0:
            sections, cars = random_convoy(source, 8)
        elif at % 4 == 1:
            sections, cars = random_sections(source, 12, 99), random_cars(source, 10, 3000, 60)
        else:
            sections, cars = random_sections(source, 6, 8), random_cars(source, 8, 40, 15)
        yield sections, in_order(cars)


class LaterCarsTest(TrafficCase):
    def test_later_cars_never_change_earlier_ones(self):
        for sections, cars in some_traffic(111, 120):
            ticks = plain_ticks(sections, cars)
            live = LiveRoad(Road(*sections))
            for many, (name, start, pace) in enumerate(cars, start=1):
                self.assertEqual(live.join(name, start, pace), ticks[name][-1])
                drive = live.drive()
                for other, _, _ in cars[:many]:
                    self.assertEqual(drive[other], ticks[other])

    def test_live_road_has_the_drive_of_its_cars(self):
        for sections, cars in some_traffic(112, 120):
            live = live_with(Road(*sections), cars)
            self.assertEqual(live.present_cars, cars)
            drive = live.drive()
            for name, _, _ in cars:
                self.assertEqual(drive[name], plain_ticks(sections, cars)[name])
                self.assertEqual(live.position(name, drive(name)), (len(live.present_road), 1))
                self.assertEqual(live.position(name, drive(name, 0)), (0, 1))
            self.assertEqual(list(live.arrivals_after().items()), [(name, drive(name)) for name, _, _ in cars])
            self.assertEqual(answers(sections, live.present_cars), answers(sections, cars))


class RemovedCarsTest(TrafficCase):
    def test_car_that_is_removed_and_joins_again_changes_nothing(self):
        for sections, cars in some_traffic(113, 120):
            live = live_with(Road(*sections), cars)
            if cars:
                arrival = live.drive()(cars[-1][0])
                self.assertEqual(live.remove(cars[-1][0]), {})
                self.assertEqual(live.join(*cars[-1]), arrival)
                self.assertEqual(live.present_cars, cars)
                for name, _, _ in cars:
                    self.assertEqual(live.drive()[name], plain_ticks(sections, cars)[name])

    def test_all_later_cars_join_again(self):
        for sections, cars in some_traffic(114, 60):
            live = live_with(Road(*sections), cars)
            before = live.arrivals_after()
            for first in range(len(cars)):
                for name, _, _ in cars[first:]:
                    live.remove(name)
                results = live.apply(*[("join", *car) for car in cars[first:]])
                self.assertEqual(results, [before[name] for name, _, _ in cars[first:]])
                self.assertEqual((live.present_cars, live.arrivals_after()), (cars, before))

    def test_removals_are_those_of_one_car_less(self):
        for sections, cars in some_traffic(115, 80):
            road = Road(*sections)
            unhappy = list(unhappy_removals(road, cars))
            for name, _, _ in cars:
                live = live_with(road, cars)
                changed = live.remove(name)
                without = changed_without(road, cars, name)
                expected = {other: pair for other, pair in without.items() if pair[0] != pair[1]}
                self.assertEqual(list(changed.items()), list(expected.items()))
                later = [other for other, (before, after) in changed.items() if after > before]
                self.assertEqual(later, [other for one, other in unhappy if one == name])
                self.assertEqual(live.undo(), True)
                self.assertEqual(live.present_cars, cars)

    def test_widenings_are_those_of_the_road(self):
        for sections, cars in some_traffic(116, 60):
            road = Road(*sections)
            harmful = []
            for section in range(len(sections)):
                live = live_with(road, cars)
                changed = live.set_kind(section, "wide")
                harmful += [(section, name) for name, (before, after) in changed.items() if after > before]
                self.assertTrue(live.present_road == road.widened(section))
                wider = Drive(road.widened(section), cars)
                self.assertEqual(live.arrivals_after(), {name: wider(name) for name, _, _ in cars})
            self.assertEqual(harmful, harmful_widenings(road, cars))


class HiddenPacesTest(TrafficCase):
    def test_true_pace_is_kept(self):
        source = random.Random(117)
        for sections, cars in some_traffic(118, 60):
            if not cars:
                continue
            road, at = Road(*sections), source.randrange(len(cars))
            name, start, pace = cars[at]
            others = cars[:at] + cars[at + 1:]
            truth = Drive(road, (*others, cars[at]))
            hidden = HiddenPace(road, others, name, start)
            for place in source.sample(range(len(sections) + 1), 2):
                many = len(hidden.candidates)
                self.assertLessEqual(hidden.see(place, truth(name, place)), many)
                self.assertIn(truth(name, place), hidden.possible_ticks(place))
                hidden.see_order(place, *truth.order_at(place))
                self.assertIn(pace, hidden.candidates)
            for candidate in hidden.candidates:
                drive = Drive(road, (*others, (name, start, candidate)))
                for observation in hidden.history:
                    if observation[0] == "see":
                        self.assertEqual(drive(name, observation[1]), observation[2])
                    else:
                        self.assertEqual(drive.order_at(observation[1]), list(observation[2:]))

    def test_observations_in_another_order(self):
        for sections, cars in some_traffic(119, 30):
            if cars:
                road, (name, start, pace) = Road(*sections), cars[-1]
                drive = Drive(road, cars)
                hidden, other = [HiddenPace(road, cars[:-1], name, start) for _ in range(2)]
                for place in range(len(sections) + 1):
                    hidden.see(place, drive(name, place))
                for place in reversed(range(len(sections) + 1)):
                    other.see(place, drive(name, place))
                self.assertEqual(hidden.candidates, other.candidates)
                self.assertEqual(hidden.history, other.history[::-1])


class StoredTest(TrafficCase):
    def test_texts_bytes_and_replays_lead_to_the_same(self):
        for sections, cars in some_traffic(120, 120):
            road = Road(*sections)
            ticks = plain_ticks(sections, cars)
            live = live_with(road, cars)
            for other, found in (
                parse_traffic(format_traffic(road, cars)),
                decode_traffic(encode_traffic(road, cars)),
                decode_traffic(pack_bytes(unpack_bytes(encode_traffic(*parse_traffic(format_traffic(road, cars)))))),
                (lambda again: (again.present_road, again.present_cars))(LiveRoad.replay(road, live.history)),
            ):
                self.assertEqual((other.sections, found), (tuple(sections), cars))
                self.assertEqual([Drive(other, found)[name] for name, _, _ in found], list(ticks.values()))
                self.assertEqual(format_traffic(other, found), format_traffic(road, cars))
                self.assertEqual(encode_traffic(other, found), encode_traffic(road, cars))
                self.assertEqual(timetable(other, found), plain_timetable(sections, cars))

    def test_history_leads_to_the_same(self):
        source = random.Random(121)
        for sections, cars in some_traffic(122, 60):
            live = live_with(Road(*sections), cars)
            for name, _, _ in cars[::2]:
                live.remove(name)
            for _ in range(3):
                live.set_kind(source.randrange(len(sections)), source.choice(["narrow", "wide"]))
            live.undo()
            again = LiveRoad.replay(Road(*sections), live.history)
            self.assertEqual(again.history, live.history)
            self.assertEqual(
                encode_traffic(again.present_road, again.present_cars),
                encode_traffic(live.present_road, live.present_cars),
            )
            self.assertEqual(timetable(again.present_road, again.present_cars), plain_timetable(
                live.present_road.sections, live.present_cars
            ))

    def test_tables_tell_positions(self):
        for sections, cars in some_traffic(123, 40):
            live = live_with(Road(*sections), cars)
            for row in timetable(live.present_road, live.present_cars).split("\n") if cars else []:
                name, *ticks = row.split()
                for place, tick in enumerate(ticks):
                    units = sum(length for _, length in sections[:place])
                    self.assertEqual(live.position(name, int(tick)), (units, 1))


class ReadRoadsTest(TrafficCase):
    def roads(self, seed):
        """Yield pairs of short roads of one length."""
        source = random.Random(seed)
        for _ in range(80):
            many = source.randint(1, 12)
            yield [Road.of_units("".join(source.choices("nw", k=many))) for _ in range(2)]

    def test_parting_cars_and_all_starts(self):
        for road, other in self.roads(124):
            arrivals = [
                [
                    plain_ticks(one.sections, (("a", 0, 3), ("b", start, 1)))["b"][-1]
                    for start in range(1, 2 * len(road) + 5, 2)
                ]
                for one in (road, other)
            ]
            different = [2 * at + 1 for at, (one, two) in enumerate(zip(*arrivals)) if one != two]
            expected = (("a", 0, 3), ("b", different[0], 1)) if different else None
            self.assertEqual(parting_cars(road, other), expected)
            self.assertEqual(expected is None, road == other)

    def test_parting_cars_and_arrivals(self):
        for road, other in self.roads(125):
            lists = [list(reading_arrivals(road)), list(reading_arrivals(other))]
            self.assertEqual(lists, [plain_arrivals(road.units), plain_arrivals(other.units)])
            units = [unit for unit in range(len(road)) if lists[0][unit] != lists[1][unit]]
            self.assertEqual(parting_cars(road, other), reading_cars(units[0]) if units else None)
            self.assertTrue(read_road(lists[0]) == road and read_road(lists[1]) == other)
            self.assertEqual(parting_cars(read_road(lists[0]), other), parting_cars(road, other))

    def test_arrivals_of_traffic_that_was_stored(self):
        for sections, cars in some_traffic(126, 20):
            road = Road(*sections)
            arrivals = list(reading_arrivals(road))
            for other in (decode_traffic(encode_traffic(road, cars))[0], parse_traffic(format_traffic(road, ()))[0]):
                self.assertEqual(list(reading_arrivals(other)), arrivals)
            # A run of more than 99 units is not a section, though several ones together may be it.
            found, expected = outcome(read_road, arrivals), outcome(Road.of_units, road.units)
            self.assertEqual(found[0], expected[0])
            self.assertTrue(found[1] == (road if found[0] == "returns" else "InvalidRoad"))
            self.assertEqual(found[2:], expected[2:])


def spoil(value):
    """Change a returned list or dict, and those in it."""
    if isinstance(value, list):
        for item in value:
            spoil(item)
        value.append("spoilt")
        value.reverse()
    elif isinstance(value, dict):
        for key in list(value):
            value[key] = "spoilt"
        value["spoilt"] = []
    elif isinstance(value, tuple):
        for item in value:
            spoil(item)


class RepeatedCallsTest(TrafficCase):
    """Each call is made three times, and what it returned is changed in between."""

    def check(self, call, plain=lambda found: found):
        first = plain(call())
        kept = copy.deepcopy(first)
        spoil(first)
        second = plain(call())
        self.assertEqual(second, kept)
        spoil(second)
        self.assertEqual(plain(call()), kept)

    def test_functions(self):
        road, other = example_road(), example_road().widened(0)
        data, text = encode_traffic(road, CARS), format_traffic(road, CARS)
        for call in (
            lambda: possible_hinderers(road, CARS, "bob"),
            lambda: real_hinderers(road, CARS, "ann"),
            lambda: changed_without(road, CARS, "tom"),
            lambda: list(unhappy_removals(road, CARS)),
            lambda: chain_between(road, CARS, "tom", "ann"),
            lambda: first_loser(road, CARS, 20),
            lambda: fewest_widened(road, CARS, 20),
            lambda: harmful_widenings(road, TEN),
            lambda: latest_start(road, CARS, "ann", 100),
            lambda: parting_cars(road, other),
            lambda: reading_cars(4),
            lambda: list(reading_arrivals(road)),
            lambda: format_traffic(road, CARS),
            lambda: timetable(road, CARS),
            lambda: data,
            lambda: encode_traffic(road, CARS),
            lambda: unpack_bytes(data),
            lambda: pack_bytes([1, 2, 3]),
            lambda: (road.sections, road.units),
        ):
            self.check(call)
        for call in (lambda: parse_traffic(text), lambda: decode_traffic(data)):
            self.check(call, lambda found: (found[0].sections, found[1]))
        self.check(lambda: read_road(list(reading_arrivals(road))), lambda found: found.sections)
        self.assertEqual((road.sections, CARS[0]), (example_road().sections, ("tom", 0, 6)))

    def test_drives_and_rounds(self):
        drive, repeated = Drive(example_road(), CARS), Repeated(example_road(), CARS, 50)
        for call in (
            lambda: drive["ann"], lambda: drive("ann"), lambda: drive.order_at(1), lambda: drive.leader("bob", 0),
            lambda: drive.rows_of(0), lambda: drive.rows_of(2), lambda: list(drive.overtakings()),
            lambda: drive.losses(), lambda: repeated.settled_round, lambda: repeated("ann", 7, 1),
        ):
            self.check(call)

    def test_live_roads(self):
        live = live_with(short_road(), CARS)
        live.set_kind(0, "wide")
        live.undo()
        for call in (
            lambda: live.history, lambda: live.present_cars, lambda: live.arrivals_after(),
            lambda: live.arrivals_after(("remove", "tom")), lambda: live.position("bob", 33),
            lambda: live.apply(), lambda: len(live), lambda: live.drive().losses(),
            lambda: live.present_road.sections, lambda: [live.redo(), live.undo()],
            lambda: LiveRoad.replay(short_road(), [("join", *car) for car in CARS]).history,
        ):
            self.check(call)
        self.assertEqual(live.redo(), True)
        for operation in (("remove", "tom"), ("set_kind", 0, "narrow"), ("join", "eve", 10, 1)):
            def executed():
                result = getattr(live, operation[0])(*operation[1:])
                live.undo()
                return [result, live.apply(operation), live.undo()]

            self.check(executed)

    def test_hidden_paces(self):
        hidden = HiddenPace(short_road(), (("a", 0, 3),), "b", 10)
        hidden.see_order(2, "b", "a")
        for call in (
            lambda: hidden.candidates, lambda: hidden.history, lambda: hidden.possible_ticks(2),
            lambda: hidden.best_place(),
        ):
            self.check(call)
        self.check(lambda: hidden.see(1, 30))
        self.assertEqual(hidden.candidates, [1, 2])

    def test_errors(self):
        live, hidden = live_with(example_road(), CARS), HiddenPace(short_road(), (("a", 0, 3),), "b", 10)
        for call, arguments in (
            (live.join, ("tom", 10, 1)), (live.remove, (["tom"],)), (live.set_kind, (True, "wide")),
            (live.position, ("tom", -1)), (live.apply, (("remove", "tom"), ("leave",))),
            (live.arrivals_after, (("remove", "eve"),)), (LiveRoad.replay, (short_road(), [None])),
            (hidden.see, (2, 1)), (hidden.see_order, (2, "b", "b")), (hidden.possible_ticks, (3,)),
            (reading_cars, (-1,)), (read_road, ([4, 9, 8],)), (parse_traffic, ("",)), (decode_traffic, (b"",)),
            (pack_bytes, ([256],)), (format_traffic, (example_road(), (None,))),
        ):
            first = outcome(call, *arguments)
            self.assertEqual(first[0], "raises")
            self.assertEqual(outcome(call, *arguments), first)
            with self.assertRaises(RoadError):
                call(*arguments)
        self.assertEqual((live.present_cars, len(hidden.candidates)), (CARS, 60))


if __name__ == "__main__":
    unittest.main()
