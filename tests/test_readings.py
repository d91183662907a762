"""Points 12 and 13: events that agree with readings, least starts, and tight sources."""

import unittest

from helpers import (EXAMPLE, LAKES, LINE, agreeing, all_events, is_plain, last_to_try, random_cases, slow_agrees,
                     slow_arrivals, slow_times)
from shorewarn.charts import Chart
from shorewarn.forecasts import agrees, least_starts, tight


class AgreesTest(unittest.TestCase):
    def test_a_time_is_just_the_arrival(self):
        for start in range(3, 6):
            with self.subTest(start=start):
                self.assertIs(agrees(EXAMPLE, (((0, 1), 6),), 6, (((0, 2), start),)), start == 4)

    def test_none_is_behind_the_clock(self):
        event = (((0, 0), 3),)
        for clock in range(12):
            with self.subTest(clock=clock):
                self.assertIs(agrees(LINE, (((0, 2), None),), clock, event), 7 > clock)

    def test_none_is_no_arrival_at_all(self):
        self.assertIs(agrees(LAKES, (((2, 1), None),), 90000, (((0, 0), 0),)), True)
        self.assertIs(agrees(LAKES, (((2, 4), None),), 90000, (((0, 0), 0), ((2, 0), 0))), True)

    def test_a_time_without_an_arrival(self):
        self.assertIs(agrees(LAKES, (((2, 1), 5),), 9, (((0, 0), 5), ((0, 4), 5))), False)
        self.assertIs(agrees(LAKES, (((2, 4), 0),), 9, (((2, 0), 0),)), False)

    def test_no_gauge(self):
        for event in all_events(LINE, 2):
            self.assertIs(agrees(LINE, (), 90000, event), True)

    def test_all_readings_count(self):
        readings = (((0, 1), 4), ((0, 3), 8), ((2, 1), None))
        good = (((0, 0), 2), ((0, 4), 6), ((2, 0), 7))
        self.assertIs(agrees(LAKES, readings, 8, good), True)
        self.assertIs(agrees(LAKES, readings, 9, good), False)
        self.assertIs(agrees(LAKES, readings, 8, (((0, 0), 3),) + good[1:]), False)
        self.assertIs(agrees(LAKES, readings, 8, good[:1] + (((0, 4), 5),) + good[2:]), False)
        self.assertIs(agrees(LAKES, readings, 8, good[:2] + (((2, 0), 6),)), False)
        self.assertIs(agrees(LAKES, readings, 8, good[:2]), True)
        self.assertIs(agrees(LAKES, readings, 8, good[1:]), False)

    def test_like_the_slow_way(self):
        for chart, readings, clock in random_cases(60):
            for event in all_events(chart, 7):
                told = slow_agrees(readings, clock, slow_arrivals(chart, event))
                self.assertIs(agrees(chart, readings, clock, event), told)


class LeastStartsTest(unittest.TestCase):
    def test_no_gauge(self):
        for clock in (0, 90000):
            self.assertEqual(least_starts(LINE, (), clock), (((0, 0), 0), ((0, 4), 0)))
            self.assertEqual(least_starts(LAKES, (), clock), (((0, 0), 0), ((0, 4), 0), ((2, 0), 0)))

    def test_a_time_less_the_travel_time(self):
        self.assertEqual(least_starts(EXAMPLE, (((0, 1), 6),), 6), (((0, 2), 4),))
        self.assertEqual(least_starts(LINE, (((0, 1), 7),), 9), (((0, 0), 5), ((0, 4), 1)))

    def test_never_below_zero(self):
        self.assertEqual(least_starts(LINE, (((0, 1), 1),), 9), (((0, 0), 0), ((0, 4), 0)))
        self.assertEqual(least_starts(LINE, (((0, 1), 6),), 9), (((0, 0), 4), ((0, 4), 0)))
        self.assertEqual(least_starts(LINE, (((0, 1), None),), 0), (((0, 0), 0), ((0, 4), 0)))

    def test_none_is_one_more_than_the_clock_less_the_travel_time(self):
        self.assertEqual(least_starts(LINE, (((0, 1), None),), 8), (((0, 0), 7), ((0, 4), 3)))
        self.assertEqual(least_starts(LINE, (((0, 0), None),), 8), (((0, 0), 9), ((0, 4), 1)))
        self.assertEqual(least_starts(LINE, (((0, 0), None),), 90000), (((0, 0), 90001), ((0, 4), 89993)))

    def test_a_gauge_out_of_reach(self):
        self.assertEqual(least_starts(LAKES, (((2, 1), 9),), 9), (((0, 0), 0), ((0, 4), 0), ((2, 0), 7)))
        self.assertEqual(least_starts(LAKES, (((2, 1), None),), 9), (((0, 0), 0), ((0, 4), 0), ((2, 0), 8)))
        self.assertEqual(least_starts(LAKES, (((2, 4), 9),), 9), (((0, 0), 0), ((0, 4), 0), ((2, 0), 0)))

    def test_the_greatest_of_several(self):
        readings = (((0, 1), 3), ((0, 3), None))
        self.assertEqual(least_starts(LINE, readings, 5), (((0, 0), 1), ((0, 4), 4)))
        self.assertEqual(least_starts(LINE, readings, 6), (((0, 0), 1), ((0, 4), 5)))
        self.assertEqual(least_starts(LINE, readings, 7), (((0, 0), 2), ((0, 4), 6)))

    def is_right(self, chart, readings, clock):
        expected = []
        for source in chart.sources:
            bounds = [0]
            for gauge, time in readings:
                if gauge in slow_times(chart, source):
                    first = clock + 1 if time is None else time
                    bounds.append(first - slow_times(chart, source)[gauge])
            expected.append((source, max(bounds)))
        told = least_starts(chart, readings, clock)
        self.assertEqual(told, tuple(expected))
        self.assertTrue(is_plain(told))

    def test_on_many_charts(self):
        for chart, readings, clock in random_cases(150, most_sources=6):
            self.is_right(chart, readings, clock)

    def test_in_no_event_that_agrees_a_source_starts_earlier(self):
        for chart, readings, clock in random_cases(30):
            least = dict(least_starts(chart, readings, clock))
            for event, _ in agreeing(chart, readings, clock, last_to_try(chart, clock)):
                self.assertTrue(all(time >= least[source] for source, time in event))


class TightTest(unittest.TestCase):
    def test_no_gauge_and_no_time(self):
        self.assertEqual(tight(LINE, (), 5), ())
        self.assertEqual(tight(LINE, (((0, 1), None), ((0, 3), None)), 5), ())

    def test_one_tight_source(self):
        self.assertEqual(tight(EXAMPLE, (((0, 1), 6),), 6), (((0, 1), ((0, 2),)),))
        # The source (0, 4) would have started at -3.
        self.assertEqual(tight(LINE, (((0, 1), 3),), 9), (((0, 1), ((0, 0),)),))

    def test_several_tight_sources_ascending(self):
        self.assertEqual(tight(LINE, (((0, 2), 6),), 8), (((0, 2), ((0, 0), (0, 4))),))
        self.assertEqual(tight(LINE, (((0, 1), 6),), 8), (((0, 1), ((0, 0), (0, 4))),))
        three = Chart(("111", "1#1"), ((0, 1), (1, 0), (1, 2)))
        self.assertEqual(tight(three, (((0, 1), 9),), 9), (((0, 1), ((0, 1), (1, 0), (1, 2))),))

    def test_no_tight_source(self):
        self.assertEqual(tight(EXAMPLE, (((0, 1), 1),), 6), (((0, 1), ()),))
        self.assertEqual(tight(LAKES, (((2, 4), 5),), 6), (((2, 4), ()),))
        self.assertEqual(tight(LINE, (((0, 1), 3), ((0, 3), None)), 7), (((0, 1), ()),))

    def test_gauges_with_none_are_left_out_but_count(self):
        readings = (((0, 0), None), ((0, 2), 6), ((0, 3), None))
        self.assertEqual(tight(LINE, readings, 6), (((0, 2), ()),))
        readings = (((0, 0), None), ((0, 2), 6))
        self.assertEqual(tight(LINE, readings, 6), (((0, 2), ((0, 4),)),))

    def test_each_reading_with_a_time_in_order(self):
        readings = (((0, 1), 3), ((0, 3), 8), ((2, 0), None), ((2, 1), 7))
        told = (((0, 1), ((0, 0),)), ((0, 3), ((0, 4),)), ((2, 1), ()))
        self.assertEqual(tight(LAKES, readings, 9), told)

    def test_on_many_charts(self):
        for chart, readings, clock in random_cases(150, most_sources=6):
            least = dict(least_starts(chart, readings, clock))
            expected = []
            for gauge, time in readings:
                if time is not None:
                    found = [source for source in chart.sources if gauge in slow_times(chart, source)
                             and least[source] + slow_times(chart, source)[gauge] == time]
                    expected.append((gauge, tuple(found)))
            told = tight(chart, readings, clock)
            self.assertEqual(told, tuple(expected))
            self.assertTrue(is_plain(told))


if __name__ == "__main__":
    unittest.main()
