"""A second road, and what several tests of live roads ask for."""

from slowleaders.live import LiveRoad
from slowleaders.roads import Road
from traffic_case import TrafficCase


def short_road():
    return Road(("narrow", 10), ("wide", 10))


def live_with(road, cars):
    live = LiveRoad(road)
    for car in cars:
        live.join(*car)
    return live


class LiveCase(TrafficCase):
    def assert_same(self, live, sections, cars, history):
        self.assertEqual(live.present_road.sections, sections)
        self.assertEqual(live.present_cars, cars)
        self.assertEqual(live.history, history)
        self.assertEqual(len(live), len(cars))

    def check_unchanged(self, live, call, error):
        """Expect an error that changes nothing."""
        before = (live.present_road.sections, live.present_cars, live.history)
        with self.assertRaises(error):
            call()
        self.assertEqual((live.present_road.sections, live.present_cars, live.history), before)
        self.assertFalse(live.redo())
