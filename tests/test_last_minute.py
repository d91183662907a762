"""Point 22: the last minute from which on there is a sure walk."""

import unittest

from helpers import (EXAMPLE, LAND, ROAD, ROAD_READINGS, is_plain, is_safe, is_walk, places_of,
                     random_cases, sign_of, slow_arrivals, slow_reached, slow_unsafe)
from shorewarn.charts import Chart
from shorewarn.escapes import last_minute
from shorewarn.forecasts import explained

# From (1, 1) the fast way goes over (0, 1), which waves make unsafe, the slow one over cells that never are.
DETOUR = Chart(("1a^", "#a#", "#i#", "#^#"), ((0, 0),))


class LastMinuteTest(unittest.TestCase):
    def test_a_minute(self):
        walk = (((1, 2), 18), ((1, 3), 20), ((1, 4), 23), ((2, 4), 24))
        reached = (((1, 2), 19), ((1, 3), 21), ((1, 4), 24))
        told = ("minute", 18, walk, (((0, 0), 4),), reached)
        self.assertEqual(last_minute(ROAD, ROAD_READINGS, 5, (1, 2)), told)
        told = ("minute", 23, (((1, 4), 23), ((2, 4), 24)), (((0, 0), 4),), (((1, 4), 24),))
        self.assertEqual(last_minute(ROAD, ROAD_READINGS, 5, (1, 4)), told)

    def test_the_minute_of_the_clock_itself_and_the_next_one(self):
        walk = (((1, 2), 18), ((1, 3), 20), ((1, 4), 23), ((2, 4), 24))
        reached = (((1, 2), 19), ((1, 3), 21), ((1, 4), 24))
        for clock in (4, 17, 18):
            self.assertEqual(last_minute(ROAD, ROAD_READINGS, clock, (1, 2)),
                             ("minute", 18, walk, (((0, 0), 4),), reached))
        self.assertEqual(last_minute(ROAD, ROAD_READINGS, 19, (1, 2)), ("never", (((0, 0), 4),), reached))
        self.assertEqual(last_minute(ROAD, ROAD_READINGS, 23, (1, 2)), ("never", (((0, 0), 4),), (((1, 2), 23),)))

    def test_the_clock_zero(self):
        chart = Chart(("1a^",), ((0, 0),))
        self.assertEqual(last_minute(chart, (), 0, (0, 1)), ("never", (((0, 0), 0),), (((0, 1), 0),)))
        told = ("minute", 0, (((0, 1), 0), ((0, 2), 1)), (((0, 0), 1),), (((0, 1), 1),))
        self.assertEqual(last_minute(chart, (((0, 0), None),), 0, (0, 1)), told)

    def test_the_greatest_clock(self):
        chart = Chart(("1a^",), ((0, 0),))
        told = ("minute", 90000, (((0, 1), 90000), ((0, 2), 90001)), (((0, 0), 90001),), (((0, 1), 90001),))
        self.assertEqual(last_minute(chart, (((0, 0), None),), 90000, (0, 1)), told)

    def test_a_minute_far_behind_the_clock(self):
        chart = Chart(("99999a^",), ((0, 0),))
        # The wave that starts at 50000 comes to (0, 4) at 50072.
        told = last_minute(chart, (((0, 0), 50000),), 50000, (0, 5))
        self.assertEqual(told[:3], ("minute", 50071, (((0, 5), 50071), ((0, 6), 50072))))

    def test_ever_from_high_ground(self):
        for clock in (6, 90000):
            self.assertEqual(last_minute(EXAMPLE, (((0, 1), 6),), clock, (2, 0)), ("ever", (((2, 0), clock),)))
        self.assertEqual(last_minute(Chart(("1^",), ((0, 0),)), (), 3, (0, 1)), ("ever", (((0, 1), 3),)))

    def test_ever_from_land(self):
        chart = Chart(("1abc^",), ((0, 0),))
        readings = (((0, 0), 5),)
        self.assertEqual(last_minute(chart, readings, 5, (0, 2)), ("ever", (((0, 2), 5), ((0, 3), 8), ((0, 4), 9))))
        self.assertEqual(last_minute(chart, readings, 5, (0, 3)), ("ever", (((0, 3), 5), ((0, 4), 6))))
        self.assertEqual(last_minute(chart, readings, 5, (0, 1)), ("never", (((0, 0), 5),), (((0, 1), 5),)))

    def test_ever_beside_water_that_no_wave_comes_to(self):
        chart = Chart(("1#1a^",), ((0, 0),))
        self.assertEqual(last_minute(chart, (), 7, (0, 3)), ("ever", (((0, 3), 7), ((0, 4), 8))))

    def test_ever_goes_around_what_waves_come_to(self):
        slow = ("ever", (((1, 1), 6), ((2, 1), 15), ((3, 1), 16)))
        for readings in ((), (((0, 0), 6),), (((0, 0), None),)):
            self.assertEqual(last_minute(DETOUR, readings, 6, (1, 1)), slow)

    def test_not_ever_if_each_walk_goes_over_a_cell_that_is_unsafe_at_some_time(self):
        # Without the slow way only the one over (0, 1) is left.
        chart = Chart(DETOUR.rows[:3], DETOUR.sources)
        told = last_minute(chart, (((0, 0), None),), 7, (0, 1))
        self.assertEqual(told, ("minute", 7, (((0, 1), 7), ((0, 2), 8)), (((0, 0), 8),),
                                (((0, 1), 8),)))
        told = last_minute(chart, (((0, 0), None),), 6, (1, 1))
        self.assertEqual(told, ("never", (((0, 0), 7),), (((0, 1), 7), ((1, 1), 6), ((2, 1), 15))))

    def test_never_for_a_cell_that_cannot_be_left(self):
        for clock in (0, 9):
            told = ("never", (((0, 0), 0),), (((0, 2), clock),))
            self.assertEqual(last_minute(Chart(("1#a",), ((0, 0),)), (), clock, (0, 2)), told)

    def test_never_for_land_without_high_ground(self):
        told = ("never", (((0, 0), 0),), (((0, 2), 3), ((0, 3), 5)))
        self.assertEqual(last_minute(Chart(("1#ab",), ((0, 0),)), (), 3, (0, 2)), told)


class SlowLastMinuteTest(unittest.TestCase):
    def has_walk(self, chart, unsafe, start, minute):
        return any(sign_of(chart, place) == "^" for place in slow_reached(chart, unsafe, start, minute))

    def last(self, chart, unsafe, start, clock):
        """The last minute with a walk, by trying each one; None for never, and "ever"."""
        last = None
        end = max([clock] + list(unsafe.values())) + 1
        for minute in range(clock, end + 1):
            if self.has_walk(chart, unsafe, start, minute):
                last = minute
        return "ever" if last == end else last

    def is_sure(self, chart, walk, unsafe, start, minute):
        self.assertEqual(walk[0], (start, minute))
        self.assertTrue(is_walk(chart, walk) and is_safe(chart, walk, unsafe))

    def follow(self, chart, readings, clock, start):
        told = last_minute(chart, readings, clock, start)
        event = explained(chart, readings, clock)[1]
        unsafe = slow_unsafe(chart, slow_arrivals(chart, event))
        last = self.last(chart, unsafe, start, clock)
        self.assertTrue(is_plain(told))
        if last == "ever":
            self.assertEqual((told[0], len(told)), ("ever", 2))
            self.is_sure(chart, told[1], unsafe, start, clock)
            self.assertEqual([place for place, _ in told[1] if place in unsafe], [])
        elif last is None:
            reached = slow_reached(chart, unsafe, start, clock)
            self.assertEqual(told, ("never", event, tuple(sorted(reached.items()))))
        else:
            reached = slow_reached(chart, unsafe, start, last + 1)
            self.assertEqual(told[:2] + told[3:], ("minute", last, event, tuple(sorted(reached.items()))))
            self.is_sure(chart, told[2], unsafe, start, last)
        return told[0]

    def test_like_the_slow_way(self):
        kinds = []
        for chart, readings, clock in random_cases(250, most_sources=6, most_minutes=60):
            if explained(chart, readings, clock)[0] == "event":
                for start in places_of(chart):
                    if sign_of(chart, start) in LAND + "^":
                        kinds.append(self.follow(chart, readings, clock, start))
        for kind in ("minute", "ever", "never"):
            self.assertGreater(kinds.count(kind), 20)

    def test_each_start_beside_a_long_shore(self):
        chart = Chart(("1234567", "aabacab", "b#aib#a", "a^#aa^i"), ((0, 0), (0, 4)))
        for start in places_of(chart):
            if sign_of(chart, start) in LAND + "^":
                for clock in (2, 9, 20):
                    self.follow(chart, (((0, 0), 2),), clock, start)


if __name__ == "__main__":
    unittest.main()
