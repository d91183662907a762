"""Points 8 to 10: arrivals of events, and merged, delayed and reduced events."""

import unittest

from helpers import (ALL_SIGNS, EXAMPLE, LAKES, LINE, all_events, as_grid, is_plain, random_cases, random_charts,
                     slow_arrivals)
from shorewarn.charts import Chart, check_event
from shorewarn.events import arrivals, delayed, merged, reduced

NOTHING = (None,) * 5


class ArrivalsTest(unittest.TestCase):
    def test_example(self):
        self.assertEqual(arrivals(EXAMPLE, (((0, 2), 4),)), ((8, 6, 4), (None,) * 3, (None,) * 3))

    def test_one_start(self):
        self.assertEqual(arrivals(LAKES, (((0, 0), 0),)), ((0, 2, 6, 10, 12), NOTHING, NOTHING))
        self.assertEqual(arrivals(LAKES, (((0, 4), 7),)), ((19, 17, 13, 9, 7), NOTHING, NOTHING))
        self.assertEqual(arrivals(LAKES, (((2, 0), 5),)), (NOTHING, NOTHING, (5, 7, None, None, None)))

    def test_the_lesser_of_two_waves(self):
        event = (((0, 0), 0), ((0, 4), 3))
        self.assertEqual(arrivals(LAKES, event), ((0, 2, 6, 5, 3), NOTHING, NOTHING))
        event = (((0, 0), 20), ((0, 4), 3))
        self.assertEqual(arrivals(LAKES, event), ((15, 13, 9, 5, 3), NOTHING, NOTHING))
        self.assertEqual(arrivals(LINE, (((0, 0), 1), ((0, 4), 1))), ((1, 3, 5, 3, 1),))

    def test_each_source_in_its_own_lake(self):
        event = (((0, 0), 1), ((0, 4), 100), ((2, 0), 50))
        self.assertEqual(arrivals(LAKES, event), ((1, 3, 7, 11, 13), NOTHING, (50, 52, None, None, None)))

    def test_none_on_land_high_ground_rock_and_out_of_reach(self):
        grid = arrivals(LAKES, (((0, 0), 1), ((0, 4), 1), ((2, 0), 1)))
        self.assertEqual(grid[1], NOTHING)
        self.assertEqual(grid[2][2:], (None, None, None))
        grid = arrivals(ALL_SIGNS, (((0, 0), 0),))
        self.assertEqual(grid[1][2:] + grid[2][:6], (None,) * 11)

    def test_the_greatest_time(self):
        self.assertEqual(arrivals(LINE, (((0, 0), 100000),)), ((100000, 100002, 100004, 100006, 100008),))

    def test_one_cell(self):
        self.assertEqual(arrivals(Chart(("9",), ((0, 0),)), (((0, 0), 3),)), ((3,),))

    def test_like_the_slow_way(self):
        for number, chart in enumerate(random_charts(60) + [ALL_SIGNS]):
            for many in range(1, len(chart.sources) + 1):
                event = tuple((source, (number * 7 + row * 5) % 23)
                              for row, source in enumerate(chart.sources[-many:]))
                grid = arrivals(chart, event)
                self.assertTrue(is_plain(grid))
                self.assertEqual(grid, as_grid(chart, slow_arrivals(chart, event)))


class MergedTest(unittest.TestCase):
    def test_the_same_source_at_different_times(self):
        self.assertEqual(merged((((0, 0), 3),), (((0, 0), 5),)), (((0, 0), 3),))
        self.assertEqual(merged((((0, 0), 5),), (((0, 0), 3),)), (((0, 0), 3),))
        self.assertEqual(merged((((0, 0), 0),), (((0, 0), 0),)), (((0, 0), 0),))

    def test_different_sources_come_out_ascending(self):
        both = (((0, 0), 9), ((0, 4), 2))
        self.assertEqual(merged((((0, 0), 9),), (((0, 4), 2),)), both)
        self.assertEqual(merged((((0, 4), 2),), (((0, 0), 9),)), both)

    def test_sources_are_ordered_by_cell_and_not_by_time(self):
        one = (((0, 1), 8), ((2, 0), 1))
        two = (((0, 4), 6), ((1, 6), 5), ((2, 0), 4))
        told = (((0, 1), 8), ((0, 4), 6), ((1, 6), 5), ((2, 0), 1))
        self.assertEqual(merged(one, two), told)
        self.assertEqual(merged(two, one), told)

    def test_some_shared_each_with_its_lesser_time(self):
        one = (((0, 0), 1), ((0, 4), 7))
        two = (((0, 0), 4), ((0, 4), 5), ((2, 0), 2))
        self.assertEqual(merged(one, two), (((0, 0), 1), ((0, 4), 5), ((2, 0), 2)))

    def test_has_the_lesser_arrivals_of_both(self):
        events = list(all_events(LINE, 3))
        for one in events:
            for two in events:
                event = merged(one, two)
                self.assertTrue(is_plain(event))
                self.assertIsNone(check_event(LINE, event))
                came, other = slow_arrivals(LINE, one), slow_arrivals(LINE, two)
                least = {place: min(came[place], other[place]) for place in came}
                self.assertEqual(slow_arrivals(LINE, event), least)


class DelayedTest(unittest.TestCase):
    event = (((0, 0), 0), ((0, 4), 7), ((2, 0), 3))

    def test_by_nothing(self):
        self.assertEqual(delayed(self.event, 0), self.event)

    def test_by_more(self):
        self.assertEqual(delayed(self.event, 1), (((0, 0), 1), ((0, 4), 8), ((2, 0), 4)))
        self.assertEqual(delayed(self.event, 90000), (((0, 0), 90000), ((0, 4), 90007), ((2, 0), 90003)))
        self.assertEqual(delayed((((0, 4), 5),), 2), (((0, 4), 7),))

    def test_up_to_the_greatest_time(self):
        event = delayed(self.event, 99993)
        self.assertEqual(event, (((0, 0), 99993), ((0, 4), 100000), ((2, 0), 99996)))
        self.assertIsNone(check_event(LAKES, event))
        self.assertEqual(delayed((((0, 0), 0),), 100000), (((0, 0), 100000),))

    def test_all_arrivals_are_as_much_later(self):
        for minutes in (0, 1, 17):
            came = slow_arrivals(LAKES, self.event)
            later = {place: came[place] + minutes for place in came}
            self.assertEqual(arrivals(LAKES, delayed(self.event, minutes)), as_grid(LAKES, later))
            self.assertTrue(is_plain(delayed(self.event, minutes)))


class ReducedTest(unittest.TestCase):
    def test_reached_by_the_other_wave_after_at_and_before_its_own_time(self):
        # The wave from (0, 4) comes to (0, 0) at 17.
        for time in (5, 16):
            event = (((0, 0), time), ((0, 4), 5))
            self.assertEqual(reduced(LAKES, event), event)
        for time in (17, 18, 100000):
            self.assertEqual(reduced(LAKES, (((0, 0), time), ((0, 4), 5))), (((0, 4), 5),))

    def test_the_same_the_other_way_around(self):
        for time in (16, 17, 18):
            event = (((0, 0), 5), ((0, 4), time))
            self.assertEqual(reduced(LAKES, event), event if time == 16 else event[:1])

    def test_two_at_the_same_time_are_both_needed(self):
        for time in (0, 9, 100000):
            event = (((0, 0), time), ((0, 4), time))
            self.assertEqual(reduced(LINE, event), event)

    def test_one_start_is_never_needless(self):
        for start in (((0, 0), 0), ((0, 4), 100000), ((2, 0), 3)):
            self.assertEqual(reduced(LAKES, (start,)), (start,))

    def test_a_source_out_of_reach_of_the_others_is_needed(self):
        event = (((0, 0), 0), ((0, 4), 12), ((2, 0), 100000))
        self.assertEqual(reduced(LAKES, event), (((0, 0), 0), ((2, 0), 100000)))

    def test_a_needless_start_makes_another_one_needless(self):
        chart = Chart(("11111",), ((0, 0), (0, 2), (0, 4)))
        self.assertEqual(reduced(chart, (((0, 0), 0), ((0, 2), 4), ((0, 4), 8))), (((0, 0), 0),))
        self.assertEqual(reduced(chart, (((0, 0), 8), ((0, 2), 4), ((0, 4), 0))), (((0, 4), 0),))

    def is_right(self, chart, event):
        left = reduced(chart, event)
        self.assertTrue(is_plain(left))
        self.assertEqual(slow_arrivals(chart, left), slow_arrivals(chart, event))
        needed = tuple((source, time) for source, time in event
                       if slow_arrivals(chart, [row for row in event if row[0] != source]).get(source, time + 1) > time)
        self.assertEqual(left, needed)

    def test_what_is_left_has_the_same_arrivals(self):
        for chart, _, _ in random_cases(20, most_sources=3):
            for event in all_events(chart, 4):
                self.is_right(chart, event)


if __name__ == "__main__":
    unittest.main()
