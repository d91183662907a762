"""Points 18 to 21 and the example of point 2: unsafe land, sure walks, and what cuts every walk."""

import unittest

from helpers import (ALL_SIGNS, EXAMPLE, LAND, LINE, ROAD, ROAD_READINGS, agreeing, as_grid, ground_of, is_plain,
                     is_safe, is_walk, places_of, random_cases, random_charts, sign_of, slow_arrivals, slow_reached,
                     slow_unsafe)
from shorewarn.charts import Chart
from shorewarn.escapes import escape, last_minute, unsafe_from
from shorewarn.forecasts import earliest, explained

READINGS = (((0, 1), 6),)
EVENT = (((0, 2), 4),)


class ExampleTest(unittest.TestCase):
    """Point 2, sentence by sentence."""

    def test_the_wave(self):
        self.assertEqual(explained(EXAMPLE, READINGS, 6), ("event", EVENT))
        self.assertEqual(earliest(EXAMPLE, READINGS, 6)[0][0], 8)

    def test_the_unsafe_cells(self):
        grid = unsafe_from(EXAMPLE, READINGS, 6)
        self.assertEqual(grid, ((None, None, None), (8, 6, None), (None, None, None)))

    def test_the_last_walk_that_is_sure(self):
        walk = (((1, 0), 7), ((2, 0), 8))
        self.assertEqual(escape(EXAMPLE, READINGS, 6, (1, 0), 7), ("walk", walk))
        told = ("minute", 7, walk, EVENT, (((1, 0), 8),))
        self.assertEqual(last_minute(EXAMPLE, READINGS, 6, (1, 0)), told)

    def test_no_walk_any_more(self):
        self.assertEqual(last_minute(EXAMPLE, READINGS, 6, (1, 1)), ("never", EVENT, (((1, 1), 6),)))
        self.assertEqual(escape(EXAMPLE, READINGS, 6, (1, 1), 5)[0], "walk")

    def test_example_of_the_interface(self):
        self.assertEqual(escape(EXAMPLE, READINGS, 6, (1, 1), 6), ("cut", EVENT, (((1, 1), 6),)))


class UnsafeFromTest(unittest.TestCase):
    def test_early_late_and_never(self):
        # The lake on the right has no source.
        chart = Chart(("11111#", "aba^a1", "#aaaa1"), ((0, 0),))
        grid = unsafe_from(chart, (((0, 1), 3),), 3)
        self.assertEqual(grid, ((None,) * 6, (1, 3, 5, None, 9, None), (None,) * 6))

    def test_the_least_of_several_arrivals(self):
        chart = Chart(("1#1", "1a1", "111"), ((0, 0),))
        # The waves come to (1, 0) at 2, to (2, 1) at 6 and to (1, 2) at 10.
        self.assertEqual(unsafe_from(chart, (), 0)[1], (None, 2, None))
        chart = Chart(("1#1", "1a1", "111"), ((0, 0), (0, 2)))
        self.assertEqual(unsafe_from(chart, (((1, 2), 9), ((1, 0), 10)), 10)[1], (None, 9, None))

    def test_from_the_minute_zero(self):
        chart = Chart(("1a",), ((0, 0),))
        self.assertEqual(unsafe_from(chart, (), 0), ((None, 0),))
        self.assertEqual(unsafe_from(chart, (((0, 0), None),), 0), ((None, 1),))

    def test_a_source_at_the_greatest_start(self):
        chart = Chart(("1a",), ((0, 0),))
        self.assertEqual(unsafe_from(chart, (((0, 0), None),), 90000), ((None, 90001),))

    def test_water_at_a_corner_is_not_beside(self):
        chart = Chart(("1#", "#a"), ((0, 0),))
        self.assertEqual(unsafe_from(chart, (), 0), ((None, None), (None, None)))

    def test_none_on_water_high_ground_and_rock(self):
        chart = Chart(("1^1", "#1a"), ((0, 0), (0, 2), (1, 1)))
        self.assertEqual(unsafe_from(chart, (), 0), ((None, None, None), (None, None, 0)))

    def test_each_land_sign(self):
        for sign in LAND:
            self.assertEqual(unsafe_from(Chart(("1" + sign,), ((0, 0),)), (((0, 0), 5),), 5), ((None, 5),))

    def test_like_the_slow_way(self):
        for chart, readings, clock in random_cases(150, most_sources=6, most_minutes=60):
            told = explained(chart, readings, clock)
            if told[0] == "event":
                grid = unsafe_from(chart, readings, clock)
                self.assertEqual(grid, as_grid(chart, slow_unsafe(chart, slow_arrivals(chart, told[1]))))
                self.assertTrue(is_plain(grid))


class EscapeTest(unittest.TestCase):
    def test_from_high_ground(self):
        for minute in (0, 6, 100000):
            self.assertEqual(escape(EXAMPLE, READINGS, 6, (2, 0), minute), ("walk", (((2, 0), minute),)))
        chart = Chart(("1^", "#^"), ((0, 0),))
        self.assertEqual(escape(chart, (), 0, (0, 1), 9), ("walk", (((0, 1), 9),)))

    def test_from_land_beside_high_ground(self):
        chart = Chart(("1a^",), ((0, 0),))
        readings = (((0, 0), 5),)
        self.assertEqual(escape(chart, readings, 5, (0, 1), 0), ("walk", (((0, 1), 0), ((0, 2), 1))))
        self.assertEqual(escape(chart, readings, 5, (0, 1), 4), ("walk", (((0, 1), 4), ((0, 2), 5))))
        self.assertEqual(escape(chart, readings, 5, (0, 1), 5), ("cut", (((0, 0), 5),), (((0, 1), 5),)))

    def test_the_minutes_to_come_into_each_land_sign(self):
        for minutes, sign in enumerate(LAND, start=1):
            chart = Chart(("1#i" + sign + "^",), ((0, 0),))
            walk = (((0, 2), 3), ((0, 3), 3 + minutes), ((0, 4), 4 + minutes))
            self.assertEqual(escape(chart, (), 0, (0, 2), 3), ("walk", walk))

    def test_more_steps_and_the_minute_that_is_just_early_enough(self):
        walk = (((1, 2), 18), ((1, 3), 20), ((1, 4), 23), ((2, 4), 24))
        told = escape(ROAD, ROAD_READINGS, 5, (1, 2), 18)
        self.assertEqual(told[0], "walk")
        self.assertEqual(told, ("walk", walk))
        reached = (((1, 2), 19), ((1, 3), 21), ((1, 4), 24))
        self.assertEqual(escape(ROAD, ROAD_READINGS, 5, (1, 2), 19), ("cut", (((0, 0), 4),), reached))

    def test_a_cell_on_the_way_that_is_unsafe_first(self):
        # Who leaves (1, 3) has to do so before 22, and (1, 4) before 24.
        for minute, last in ((20, True), (21, False)):
            told = escape(ROAD, ROAD_READINGS, 5, (1, 3), minute)
            self.assertEqual(told[0] == "walk", last)
        # Back into (1, 2) a walker can come, too, though not on from there.
        self.assertEqual(told, ("cut", (((0, 0), 4),), (((1, 2), 22), ((1, 3), 21), ((1, 4), 24))))

    def test_the_cut_goes_as_far_as_cells_are_left_in_safety(self):
        event = (((0, 0), 4),)
        self.assertEqual(escape(ROAD, ROAD_READINGS, 5, (1, 2), 20), ("cut", event, (((1, 2), 20),)))
        self.assertEqual(escape(ROAD, ROAD_READINGS, 5, (1, 3), 22), ("cut", event, (((1, 3), 22),)))
        self.assertEqual(escape(ROAD, ROAD_READINGS, 5, (1, 4), 23), ("walk", (((1, 4), 23), ((2, 4), 24))))
        self.assertEqual(escape(ROAD, ROAD_READINGS, 5, (1, 4), 24), ("cut", event, (((1, 4), 24),)))

    def test_more_cells_and_less_time(self):
        # Over (1, 2) a walker is in (1, 3) at the minute 10, around it at 4.
        chart = Chart(("###1#", "#aia^", "#aaa#"), ((0, 3),))
        walk = (((1, 1), 0), ((2, 1), 1), ((2, 2), 2), ((2, 3), 3), ((1, 3), 4), ((1, 4), 5))
        self.assertEqual(escape(chart, (((0, 3), 5),), 5, (1, 1), 0), ("walk", walk))
        reached = (((1, 1), 0), ((1, 2), 9), ((1, 3), 4), ((2, 1), 1), ((2, 2), 2), ((2, 3), 3))
        self.assertEqual(escape(chart, (((0, 3), 4),), 4, (1, 1), 0), ("cut", (((0, 3), 4),), reached))

    def test_the_fast_way_is_cut_but_not_the_slow_one(self):
        chart = Chart(("1a^", "#a#", "#i#", "#^#"), ((0, 0),))
        slow = (((1, 1), 5), ((2, 1), 14), ((3, 1), 15))
        self.assertEqual(escape(chart, (((0, 0), 6),), 6, (1, 1), 5), ("walk", slow))

    def test_the_least_minutes_in_a_cut(self):
        # Into (1, 2) there are ways of 9 and of 3 minutes.
        chart = Chart(("1##", "#ab", "#ai", "#aa"), ((0, 0),))
        told = (((1, 1), 7), ((1, 2), 9), ((2, 1), 8), ((2, 2), 17), ((3, 1), 9), ((3, 2), 10))
        self.assertEqual(escape(chart, (), 0, (1, 1), 7), ("cut", (((0, 0), 0),), told))
        chart = Chart(("1##", "#ai", "#ai", "#aa"), ((0, 0),))
        told = (((1, 1), 7), ((1, 2), 16), ((2, 1), 8), ((2, 2), 17), ((3, 1), 9), ((3, 2), 10))
        self.assertEqual(escape(chart, (), 0, (1, 1), 7)[2], told)
        chart = Chart(("1#i##", "#aiia", "#aaaa"), ((0, 0),))
        told = (((0, 2), 19), ((1, 1), 1), ((1, 2), 10), ((1, 3), 13), ((1, 4), 6), ((2, 1), 2), ((2, 2), 3),
                ((2, 3), 4), ((2, 4), 5))
        self.assertEqual(escape(chart, (), 0, (1, 1), 1)[2], told)

    def test_a_cell_that_cannot_be_left_at_all(self):
        for chart in (Chart(("1#a",), ((0, 0),)), Chart(("a", "1", "^"), ((1, 0),)), Chart(("a1", "#^"), ((0, 1),))):
            start = (0, 2) if len(chart.rows) == 1 else (0, 0)
            event = explained(chart, (), 0)[1]
            for minute in (0, 7, 100000):
                self.assertEqual(escape(chart, (), 0, start, minute), ("cut", event, ((start, minute),)))

    def test_the_minute_need_not_be_the_clock(self):
        self.assertEqual(escape(EXAMPLE, READINGS, 60, (1, 0), 0), ("walk", (((1, 0), 0), ((2, 0), 1))))
        self.assertEqual(escape(EXAMPLE, READINGS, 60, (1, 0), 100000), ("cut", EVENT, (((1, 0), 100000),)))

    def test_a_walk_ends_on_the_first_high_ground(self):
        chart = Chart(("1#a^^a^",), ((0, 0),))
        self.assertEqual(escape(chart, (), 0, (0, 2), 3), ("walk", (((0, 2), 3), ((0, 3), 4))))
        self.assertEqual(len(escape(chart, (), 0, (0, 5), 3)[1]), 2)

    def follow(self, chart, readings, clock, minute):
        event = explained(chart, readings, clock)[1]
        unsafe = slow_unsafe(chart, slow_arrivals(chart, event))
        for start in ground_of(chart):
            told = escape(chart, readings, clock, start, minute)
            least = slow_reached(chart, unsafe, start, minute)
            self.assertTrue(is_plain(told))
            if any(sign_of(chart, place) == "^" for place in least):
                self.assertEqual((told[0], len(told)), ("walk", 2))
                self.assertEqual(told[1][0], (start, minute))
                self.assertTrue(is_walk(chart, told[1]) and is_safe(chart, told[1], unsafe))
            else:
                self.assertEqual(told, ("cut", event, tuple(sorted(least.items()))))

    def test_like_the_slow_way(self):
        for number, (chart, readings, clock) in enumerate(random_cases(200, most_sources=6, most_minutes=60)):
            if explained(chart, readings, clock)[0] == "event":
                for minute in sorted({0, clock, number % 17}):
                    self.follow(chart, readings, clock, minute)

    def test_like_the_slow_way_on_large_charts(self):
        for chart in random_charts(8, (5, 7), "129aaaabci^#") + [ALL_SIGNS]:
            gauge = chart.sources[0]
            for minute in (0, 6, 25):
                self.follow(chart, ((gauge, 20),), 25, minute)

    def test_a_walk_is_safe_under_every_event_that_agrees(self):
        walks = 0
        for chart, readings, clock in random_cases(200):
            if explained(chart, readings, clock)[0] == "event":
                told = [escape(chart, readings, clock, start, clock) for start in ground_of(chart)]
                sure = [row[1] for row in told if row[0] == "walk" and len(row[1]) > 1]
                walks += len(sure)
                for _, came in agreeing(chart, readings, clock, clock + 4):
                    unsafe = slow_unsafe(chart, came)
                    self.assertTrue(all(is_safe(chart, walk, unsafe) for walk in sure))
        self.assertGreater(walks, 50)


class ManySourcesTest(unittest.TestCase):
    def test_the_event_of_a_cut_has_all_sources(self):
        chart = Chart(("11111", "#a#a#", "#^#^#"), ((0, 0), (0, 4)))
        readings = (((0, 2), 6),)
        # Either source can have brought the wave, so both sides are as unsafe as if it were theirs.
        event = (((0, 0), 2), ((0, 4), 2))
        self.assertEqual(unsafe_from(chart, readings, 6)[1], (None, 4, None, 4, None))
        for column in (1, 3):
            start = (1, column)
            self.assertEqual(escape(chart, readings, 6, start, 4), ("cut", event, ((start, 4),)))
            self.assertEqual(escape(chart, readings, 6, start, 3), ("walk", ((start, 3), ((2, column), 4))))
        self.assertEqual(explained(LINE, readings, 6), ("event", event))


if __name__ == "__main__":
    unittest.main()
