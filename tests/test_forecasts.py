"""Point 16: earliest and latest arrivals, and events with a given arrival."""

import unittest

from helpers import (EXAMPLE, LAKES, LINE, agreeing, as_grid, is_plain, last_to_try, random_cases, slow_agrees,
                     slow_arrivals, slow_times, water_of)
from shorewarn.charts import Chart, check_event
from shorewarn.forecasts import earliest, event_at, explained, latest

NOTHING = (None,) * 5

# The upper lake has two sources, and so has the lower right one.
TWO_AND_TWO = Chart(("1111111", "#######", "1a1a111"), ((0, 0), (0, 6), (2, 4), (2, 6)))


class EarliestTest(unittest.TestCase):
    def test_example_of_the_interface(self):
        nothing = (None, None, None)
        self.assertEqual(earliest(EXAMPLE, (((0, 1), 6),), 6), ((8, 6, 4), nothing, nothing))

    def test_no_gauge(self):
        self.assertEqual(earliest(LINE, (), 50), ((0, 2, 4, 2, 0),))
        self.assertEqual(earliest(LAKES, (), 0), ((0, 2, 6, 2, 0), NOTHING, (0, 2, None, None, None)))

    def test_gauges_that_do_not_report(self):
        self.assertEqual(earliest(LINE, (((0, 1), None),), 8), ((7, 9, 7, 5, 3),))
        self.assertEqual(earliest(LINE, (((0, 1), None), ((0, 3), None)), 8), ((7, 9, 11, 9, 7),))
        self.assertEqual(earliest(LAKES, (((2, 4), None),), 8)[0], (0, 2, 6, 2, 0))

    def test_gauges_that_report(self):
        self.assertEqual(earliest(LINE, (((0, 1), 7),), 8), ((5, 7, 5, 3, 1),))
        self.assertEqual(earliest(LINE, (((0, 1), 7), ((0, 3), None)), 8), ((5, 7, 9, 9, 7),))


class LatestTest(unittest.TestCase):
    def test_no_gauge(self):
        self.assertEqual(latest(LINE, (), 50), (NOTHING,))
        self.assertEqual(latest(EXAMPLE, (), 0), ((None,) * 3,) * 3)

    def test_no_gauge_that_reports(self):
        self.assertEqual(latest(LINE, (((0, 1), None), ((0, 3), None)), 8), (NOTHING,))
        self.assertEqual(latest(LAKES, (((2, 4), None),), 8), (NOTHING,) * 3)

    def test_one_source(self):
        nothing = (None, None, None)
        self.assertEqual(latest(EXAMPLE, (((0, 1), 6),), 6), ((8, 6, 4), nothing, nothing))
        self.assertEqual(latest(EXAMPLE, (((0, 1), 6), ((0, 2), 4)), 6), ((8, 6, 4), nothing, nothing))

    def test_two_tight_sources(self):
        self.assertEqual(latest(LINE, (((0, 2), 6),), 8), ((10, 8, 6, 8, 10),))

    def test_one_of_two_sources_is_tight(self):
        self.assertEqual(latest(LINE, (((0, 1), 3),), 8), ((1, 3, 5, 7, 9),))

    def test_two_gauges_each_with_its_own_source(self):
        readings = (((0, 1), 3), ((0, 3), 6))
        self.assertEqual(latest(LINE, readings, 8), ((1, 3, 5, 6, 4),))

    def test_the_reading_that_binds_most(self):
        # Each of both sources can have brought both, but the gauge at (0, 0) only the one there.
        chart = Chart(("1111111",), ((0, 0), (0, 6)))
        readings = (((0, 3), 7),)
        self.assertEqual(latest(chart, readings, 20), ((13, 11, 9, 7, 9, 11, 13),))
        readings = (((0, 0), 1), ((0, 3), 7))
        self.assertEqual(latest(chart, readings, 20), ((1, 3, 5, 7, 9, 11, 13),))

    def test_cells_out_of_reach_and_no_water(self):
        told = latest(LAKES, (((2, 1), 9),), 9)
        self.assertEqual(told, (NOTHING, NOTHING, (7, 9, None, None, None)))
        told = latest(LAKES, (((0, 1), 3), ((2, 1), 9)), 9)
        self.assertEqual(told, ((1, 3, 7, 11, 13), NOTHING, (7, 9, None, None, None)))

    def test_none_where_some_event_never_comes(self):
        # The readings need no source of the other lake.
        told = latest(TWO_AND_TWO, (((0, 3), 9),), 9)
        self.assertEqual(told[2], (None,) * 7)
        self.assertEqual(told[0], (15, 13, 11, 9, 11, 13, 15))

    def test_none_where_events_come_as_late_as_one_likes(self):
        told = latest(TWO_AND_TWO, (((0, 3), 9), ((2, 5), None)), 9)
        self.assertEqual(told[2], (None,) * 7)


class EventAtTest(unittest.TestCase):
    def is_right(self, chart, readings, clock, cell, time):
        """What is told has to be an event that agrees and has just this arrival."""
        told = event_at(chart, readings, clock, cell, time)
        self.assertTrue(is_plain(told))
        self.assertIsNone(check_event(chart, told))
        came = slow_arrivals(chart, told)
        self.assertTrue(slow_agrees(readings, clock, came))
        self.assertEqual(came.get(cell), time)

    def test_before_at_between_and_behind(self):
        readings = (((0, 2), 6),)
        for cell, first, last in (((0, 0), 2, 10), ((0, 1), 4, 8), ((0, 2), 6, 6), ((0, 4), 2, 10)):
            for time in range(15):
                with self.subTest(cell=cell, time=time):
                    if first <= time <= last:
                        self.is_right(LINE, readings, 8, cell, time)
                    else:
                        self.assertIsNone(event_at(LINE, readings, 8, cell, time))
            self.assertIsNone(event_at(LINE, readings, 8, cell, None))

    def test_one_source(self):
        for time in (0, 7, 9, 100000, None):
            self.assertIsNone(event_at(EXAMPLE, (((0, 1), 6),), 6, (0, 0), time))
        self.assertEqual(event_at(EXAMPLE, (((0, 1), 6),), 6, (0, 0), 8), (((0, 2), 4),))

    def test_as_late_as_one_likes(self):
        for time in (7, 8, 1000, 100000):
            self.is_right(LINE, (((0, 1), None),), 8, (0, 0), time)
        self.assertIsNone(event_at(LINE, (((0, 1), None),), 8, (0, 0), 6))
        # Some source has to start, and each one comes everywhere in this lake.
        self.assertIsNone(event_at(LINE, (((0, 1), None),), 8, (0, 0), None))
        self.assertIsNone(event_at(LINE, (), 8, (0, 0), None))

    def test_no_arrival_by_sources_of_another_lake(self):
        self.is_right(LAKES, (), 5, (0, 0), None)
        self.is_right(LAKES, (), 5, (2, 0), None)
        self.is_right(LAKES, (((0, 1), 3),), 5, (2, 0), None)
        self.is_right(LAKES, (((0, 1), 3), ((2, 0), None)), 5, (2, 1), None)
        self.is_right(LAKES, (((2, 1), 3),), 5, (0, 4), None)

    def test_no_event_without_an_arrival(self):
        self.assertIsNone(event_at(LAKES, (((2, 1), 3),), 5, (2, 0), None))
        self.assertIsNone(event_at(LAKES, (((0, 1), 3), ((2, 1), 3)), 5, (0, 4), None))

    def test_a_cell_out_of_reach_of_all_sources(self):
        for readings in ((), (((0, 1), 3),), (((0, 1), 3), ((2, 0), 5), ((2, 4), None))):
            self.is_right(LAKES, readings, 5, (2, 3), None)
            for time in (0, 5, 6, 100000):
                self.assertIsNone(event_at(LAKES, readings, 5, (2, 3), time))

    def test_other_sources_do_not_come_sooner(self):
        readings = (((0, 0), None), ((2, 5), 9))
        for time in (12, 13, 100000):
            self.is_right(TWO_AND_TWO, readings, 11, (0, 0), time)
        self.assertIsNone(event_at(TWO_AND_TWO, readings, 11, (0, 0), 11))

    def test_the_greatest_clock(self):
        self.is_right(LINE, (((0, 0), None), ((0, 4), 89999)), 90000, (0, 0), 90007)
        self.is_right(LINE, (((0, 0), None), ((0, 4), 89999)), 90000, (0, 0), 90001)


class AllEventsTest(unittest.TestCase):
    """What is told is compared with all events that agree, on small charts."""

    def arrivals_at(self, events, cell):
        """The arrivals at a cell, and None if some event never comes there."""
        times = {came.get(cell) for _, came in events}
        return sorted(times - {None}), None in times

    def follow(self, chart, readings, clock):
        last = last_to_try(chart, clock)
        events = agreeing(chart, readings, clock, last + 1)
        least, greatest = {}, {}
        for cell in water_of(chart):
            times, never = self.arrivals_at(events, cell)
            if times:
                least[cell] = times[0]
            # A latest arrival is not behind the last time to try, so what is there comes as late as one likes.
            if times and not never and times[-1] <= last:
                greatest[cell] = times[-1]
            told = [time for time in range(last + 1) if event_at(chart, readings, clock, cell, time) is not None]
            self.assertEqual(told, [time for time in times if time <= last])
            self.assertEqual(event_at(chart, readings, clock, cell, None) is not None, never)
            self.events_are_right(chart, readings, clock, cell, told + [None] * never)
        self.assertEqual(earliest(chart, readings, clock), as_grid(chart, least))
        self.assertEqual(latest(chart, readings, clock), as_grid(chart, greatest))
        self.assertTrue(is_plain(earliest(chart, readings, clock)) and is_plain(latest(chart, readings, clock)))

    def events_are_right(self, chart, readings, clock, cell, times):
        for time in times:
            event = event_at(chart, readings, clock, cell, time)
            came = slow_arrivals(chart, event)
            self.assertTrue(is_plain(event) and slow_agrees(readings, clock, came))
            self.assertIsNone(check_event(chart, event))
            self.assertEqual(came.get(cell), time)

    def test_small_charts(self):
        for chart, readings, clock in random_cases(150):
            if explained(chart, readings, clock)[0] == "event":
                self.follow(chart, readings, clock)

    def test_three_sources(self):
        for chart, readings, clock in random_cases(40, most_sources=3, most_minutes=6):
            if len(chart.sources) == 3 and explained(chart, readings, clock)[0] == "event":
                self.follow(chart, readings, clock)

    def test_larger_charts(self):
        # Here not all events can be tried: what is told is checked at both ends, beside them and between them.
        for chart, readings, clock in random_cases(200, most_sources=6, most_minutes=60):
            told = explained(chart, readings, clock)
            if told[0] == "event":
                low, high = earliest(chart, readings, clock), latest(chart, readings, clock)
                self.assertEqual(low, as_grid(chart, slow_arrivals(chart, told[1])))
                for row, column in water_of(chart):
                    self.between(chart, readings, clock, (row, column), low[row][column], high[row][column])

    def between(self, chart, readings, clock, cell, first, last):
        reached = any(cell in slow_times(chart, source) for source in chart.sources)
        self.assertEqual(first is not None, reached)
        if first is None:
            self.assertIsNone(last)
            self.events_are_right(chart, readings, clock, cell, [None])
            return
        self.assertIsNone(event_at(chart, readings, clock, cell, first - 1))
        end = first + 50 if last is None else last
        self.events_are_right(chart, readings, clock, cell, sorted({first, (first + end) // 2, end}))
        if last is not None:
            self.assertIsNone(event_at(chart, readings, clock, cell, last + 1))
            self.assertIsNone(event_at(chart, readings, clock, cell, None))


if __name__ == "__main__":
    unittest.main()
