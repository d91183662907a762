"""Points 23 to 25: deaf sources, the worst event, and what is told for gauges and a cell."""

import itertools
import random
import unittest

from helpers import (ALL_SIGNS, EXAMPLE, LAKES, LAND, ROAD, all_events, ground_of, is_plain, is_safe, is_walk, near,
                     random_charts, sign_of, slow_arrivals, slow_reached, slow_times, slow_unsafe, water_of)
from shorewarn.charts import Chart, check_event
from shorewarn.placing import warned


def slow_worst(chart, gauges):
    """The minute T, the worst event and the deaf sources, word by word as in points 23 and 24."""
    deaf = [source for source in chart.sources if not any(gauge in slow_times(chart, source) for gauge in gauges)]
    least = {source: min(slow_times(chart, source)[gauge] for gauge in gauges if gauge in slow_times(chart, source))
             for source in chart.sources if source not in deaf}
    minute = max([*least.values()] + [time + 1 for source in deaf for time in slow_times(chart, source).values()])
    event = tuple((source, 0 if source in deaf else minute - least[source]) for source in chart.sources)
    return minute, event, deaf


def random_placings(number, **kinds):
    """Charts with gauges, often with none in some of the lakes."""
    chance = random.Random(5)
    for chart in random_charts(number, **kinds):
        water = water_of(chart)
        several = chance.sample(water, min(len(water), chance.choice((0, 1, 1, 1, 2, 3))))
        yield chart, tuple(sorted(several))


class DeafTest(unittest.TestCase):
    def test_beside_water_of_a_deaf_source(self):
        self.assertEqual(warned(LAKES, ((0, 1),), (1, 0)), ("deaf", (2, 0)))
        # The source is not beside (1, 1), but its waves come there.
        self.assertEqual(warned(LAKES, ((0, 1),), (1, 1)), ("deaf", (2, 0)))
        self.assertEqual(warned(EXAMPLE, (), (1, 1)), ("deaf", (0, 2)))

    def test_each_side_of_a_cell(self):
        for rows, source, start in ((("1a^",), (0, 0), (0, 1)), (("^a1",), (0, 2), (0, 1)),
                                    (("1", "a", "^"), (0, 0), (1, 0)), (("^", "a", "1"), (2, 0), (1, 0))):
            self.assertEqual(warned(Chart(rows, (source,)), (), start), ("deaf", source))

    def test_of_two_deaf_sources_the_first_one(self):
        chart = Chart(("1a1",), ((0, 0), (0, 2)))
        self.assertEqual(warned(chart, (), (0, 1)), ("deaf", (0, 0)))
        self.assertEqual(warned(chart, ((0, 0),), (0, 1)), ("deaf", (0, 2)))
        self.assertEqual(warned(chart, ((0, 2),), (0, 1)), ("deaf", (0, 0)))
        # In one lake the first one is told, although the other one is nearer.
        chart = Chart(("1111", "##a^"), ((0, 0), (0, 2)))
        self.assertEqual(warned(chart, (), (1, 2)), ("deaf", (0, 0)))

    def test_the_first_one_that_comes_beside_the_cell(self):
        chart = Chart(("1#1", "##a", "##1"), ((0, 0), (0, 2), (2, 2)))
        self.assertEqual(warned(chart, (), (1, 2)), ("deaf", (0, 2)))
        self.assertEqual(warned(chart, ((0, 2),), (1, 2)), ("deaf", (2, 2)))
        self.assertEqual(warned(chart, ((0, 0),), (1, 2)), ("deaf", (0, 2)))

    def test_deaf_although_all_walks_are_fast(self):
        chart = Chart(("11111", "####a", "####^"), ((0, 0),))
        self.assertEqual(warned(chart, (), (1, 4)), ("deaf", (0, 0)))
        self.assertEqual(warned(chart, ((0, 0),), (1, 4))[0], "walk")

    def test_a_gauge_that_no_wave_comes_to(self):
        chart = Chart(("1a#1",), ((0, 0),))
        self.assertEqual(warned(chart, ((0, 3),), (0, 1)), ("deaf", (0, 0)))

    def test_not_beside_such_water_although_a_source_is_deaf(self):
        # Water at a corner, water of no source, and water that is heard.
        chart = Chart(("1#a^", "#a#1", "##11"), ((0, 0), (2, 2)))
        self.assertEqual(warned(chart, ((2, 2),), (1, 1))[0], "cut")
        self.assertEqual(warned(chart, ((0, 0),), (0, 2))[0], "walk")
        event = (((0, 0), 3), ((0, 4), 3), ((2, 0), 0))
        self.assertEqual(warned(LAKES, ((0, 0), (0, 4)), (1, 2)), ("walk", 3, event, (((1, 2), 3), ((1, 3), 4))))
        chart = Chart(("1#1a^",), ((0, 0),))
        self.assertEqual(warned(chart, (), (0, 3)), ("silent",))

    def test_high_ground_beside_water_of_a_deaf_source(self):
        chart = Chart(("1^#1",), ((0, 0), (0, 3)))
        self.assertEqual(warned(chart, (), (0, 1)), ("silent",))
        self.assertEqual(warned(chart, ((0, 3),), (0, 1)), ("walk", 1, (((0, 0), 0), ((0, 3), 1)), (((0, 1), 1),)))


class SilentTest(unittest.TestCase):
    def test_no_gauge(self):
        self.assertEqual(warned(EXAMPLE, (), (2, 2)), ("silent",))
        self.assertEqual(warned(EXAMPLE, (), (2, 0)), ("silent",))
        self.assertEqual(warned(LAKES, (), (1, 3)), ("silent",))

    def test_gauges_that_no_source_reaches(self):
        self.assertEqual(warned(LAKES, ((2, 3), (2, 4)), (1, 3)), ("silent",))
        chart = Chart(("1#1a",), ((0, 0),))
        self.assertEqual(warned(chart, ((0, 2),), (0, 3)), ("silent",))

    def test_land_without_any_walk(self):
        chart = Chart(("1#a",), ((0, 0),))
        self.assertEqual(warned(chart, (), (0, 2)), ("silent",))
        self.assertEqual(warned(chart, ((0, 0),), (0, 2)), ("cut", 0, (((0, 0), 0),), (((0, 2), 0),)))

    def test_not_if_one_source_is_heard(self):
        self.assertEqual(warned(LAKES, ((2, 1),), (1, 3))[0], "walk")


class WorstEventTest(unittest.TestCase):
    def told(self, chart, gauges, start, minute, starts):
        told = warned(chart, gauges, start)
        self.assertEqual(told[1:3], (minute, tuple(zip(chart.sources, starts))))
        self.assertIsNone(check_event(chart, told[2]))

    def test_a_gauge_at_the_source(self):
        self.told(ROAD, ((0, 0),), (1, 2), 0, (0,))

    def test_by_the_least_travel_time_of_one_source(self):
        for column, minute in ((1, 10), (2, 16), (3, 18), (4, 20)):
            self.told(ROAD, ((0, column),), (2, 4), minute, (0,))
        self.told(ROAD, ((0, 1), (0, 4)), (2, 4), 10, (0,))
        self.told(ROAD, ((0, 3), (0, 4)), (2, 4), 18, (0,))

    def test_by_the_greatest_of_several_sources_without_a_deaf_one(self):
        # From (0, 0) it is 2 to (0, 1) and 6 to (0, 2), from (0, 4) it is 10 and 6, from (2, 0) 2 to (2, 1).
        self.told(LAKES, ((0, 1), (2, 1)), (1, 3), 10, (8, 0, 8))
        self.told(LAKES, ((0, 2), (2, 1)), (1, 3), 6, (0, 0, 4))
        self.told(LAKES, ((0, 0), (0, 2), (2, 0)), (1, 3), 6, (6, 0, 6))

    def test_with_a_deaf_source_that_is_not_what_counts(self):
        self.told(LAKES, ((0, 1),), (1, 3), 10, (8, 0, 0))
        self.told(LAKES, ((0, 2),), (1, 3), 6, (0, 0, 0))

    def test_by_1_more_than_the_travel_time_of_a_deaf_source(self):
        # From (2, 0) the farthest cell is (2, 1), 2 minutes away.
        self.told(LAKES, ((0, 0), (0, 4)), (1, 3), 3, (3, 3, 0))
        # From (0, 0) and from (0, 4) it is 12 minutes to the other end.
        self.told(LAKES, ((2, 1),), (1, 3), 13, (0, 0, 11))
        self.told(LAKES, ((2, 0),), (1, 3), 13, (0, 0, 13))

    def test_just_as_much_by_both(self):
        # To the gauge it is 3 minutes from (0, 0); the farthest cell from (0, 3) is 2 minutes away.
        chart = Chart(("12#11^",), ((0, 0), (0, 3)))
        self.told(chart, ((0, 1),), (0, 5), 3, (0, 0))
        chart = Chart(("11#11^",), ((0, 0), (0, 3)))
        self.told(chart, ((0, 1),), (0, 5), 3, (1, 0))
        chart = Chart(("13#11^",), ((0, 0), (0, 3)))
        self.told(chart, ((0, 1),), (0, 5), 4, (0, 0))

    def test_a_deaf_source_that_comes_to_no_other_cell(self):
        chart = Chart(("1#1^",), ((0, 0), (0, 2)))
        self.told(chart, ((0, 2),), (0, 3), 1, (0, 1))


class WalkAndCutTest(unittest.TestCase):
    event = (((0, 0), 0),)

    def test_a_walk_begins_at_the_first_report(self):
        walk = (((1, 2), 0), ((1, 3), 2), ((1, 4), 5), ((2, 4), 6))
        self.assertEqual(warned(ROAD, ((0, 0),), (1, 2)), ("walk", 0, self.event, walk))
        walk = (((1, 2), 10), ((1, 3), 12), ((1, 4), 15), ((2, 4), 16))
        self.assertEqual(warned(ROAD, ((0, 1),), (1, 2)), ("walk", 10, self.event, walk))
        walk = (((1, 3), 16), ((1, 4), 19), ((2, 4), 20))
        self.assertEqual(warned(ROAD, ((0, 2),), (1, 3)), ("walk", 16, self.event, walk))

    def test_high_ground(self):
        for column, minute in ((0, 0), (1, 10), (2, 16), (3, 18), (4, 20)):
            self.assertEqual(warned(ROAD, ((0, column),), (2, 4)), ("walk", minute, self.event, (((2, 4), minute),)))

    def test_the_minute_in_which_a_cell_gets_unsafe_is_too_late(self):
        self.assertEqual(warned(ROAD, ((0, 2),), (1, 2)), ("cut", 16, self.event, (((1, 2), 16),)))
        self.assertEqual(warned(ROAD, ((0, 3),), (1, 3)), ("cut", 18, self.event, (((1, 3), 18),)))
        self.assertEqual(warned(ROAD, ((0, 3),), (1, 4)), ("walk", 18, self.event, (((1, 4), 18), ((2, 4), 19))))

    def test_a_cut_with_all_cells_that_are_reached(self):
        chart = Chart(("1#ab", "##ca"), ((0, 0),))
        reached = (((0, 2), 0), ((0, 3), 2), ((1, 2), 3), ((1, 3), 3))
        self.assertEqual(warned(chart, ((0, 0),), (0, 2)), ("cut", 0, self.event, reached))
        # From (1, 2), where a wave comes beside at 4, a walker cannot go on at 9.
        chart = Chart(("1111#", "#aia^", "#a###"), ((0, 0),))
        reached = (((1, 1), 0), ((1, 2), 9), ((2, 1), 1))
        self.assertEqual(warned(chart, ((0, 0),), (1, 1)), ("cut", 0, self.event, reached))

    def test_a_cut_that_is_later_than_0(self):
        # The wave comes to (0, 1) at 2 and to (0, 2) at 4.
        chart = Chart(("111#", "aaa^", "##a#"), ((0, 0),))
        self.assertEqual(warned(chart, ((0, 1),), (1, 0)), ("cut", 2, self.event, (((1, 0), 2),)))
        reached = (((1, 1), 2),)
        self.assertEqual(warned(chart, ((0, 1),), (1, 1)), ("cut", 2, self.event, reached))
        walk = (((2, 2), 2), ((1, 2), 3), ((1, 3), 4))
        self.assertEqual(warned(chart, ((0, 1),), (2, 2)), ("walk", 2, self.event, walk))
        self.assertEqual(warned(chart, ((0, 2),), (2, 2))[0], "cut")

    def test_a_walk_keeps_away_from_water_of_deaf_sources(self):
        # The short way from (1, 2) goes over (1, 3), beside the water of (0, 3).
        chart = Chart(("###1##", "#aaa^#", "1aaa##", "##aaa^"), ((0, 3), (2, 0)))
        self.assertEqual(warned(chart, ((0, 3), (2, 0)), (2, 3))[0], "walk")
        minute, event, walk = warned(chart, ((2, 0),), (1, 2))[1:]
        self.assertEqual((minute, event), (1, (((0, 3), 0), ((2, 0), 1))))
        self.assertEqual((walk[0], walk[-1][0]), (((1, 2), 1), (3, 5)))
        self.assertNotIn((1, 3), [place for place, _ in walk])


class SlowWarnedTest(unittest.TestCase):
    def follow(self, chart, gauges, start):
        told = warned(chart, gauges, start)
        minute, event, deaf = slow_worst(chart, gauges)
        self.assertTrue(is_plain(told))
        loud = [source for source in deaf if sign_of(chart, start) in LAND
                and any(place in slow_times(chart, source) for place in near(chart, start))]
        unsafe = slow_unsafe(chart, slow_arrivals(chart, event))
        least = slow_reached(chart, unsafe, start, minute)
        if loud:
            self.assertEqual(told, ("deaf", loud[0]))
        elif deaf == list(chart.sources):
            self.assertEqual(told, ("silent",))
        elif any(sign_of(chart, place) == "^" for place in least):
            self.assertEqual((len(told), told[:3], told[3][0]), (4, ("walk", minute, event), (start, minute)))
            self.assertTrue(is_walk(chart, told[3]) and is_safe(chart, told[3], unsafe))
        else:
            self.assertEqual(told, ("cut", minute, event, tuple(sorted(least.items()))))
        return told[0]

    def test_like_the_slow_way(self):
        kinds = []
        for chart, gauges in random_placings(150, sides=(1, 5), signs="1112aaab^##"):
            kinds += [self.follow(chart, gauges, start) for start in ground_of(chart)]
        for kind in ("deaf", "silent", "walk", "cut"):
            self.assertGreater(kinds.count(kind), 40)

    def test_like_the_slow_way_on_large_charts(self):
        for chart, gauges in [*random_placings(10, sides=(6, 7), signs="1129aaabi^##"), (ALL_SIGNS, ((0, 6),))]:
            for start in ground_of(chart):
                self.follow(chart, gauges, start)

    def holds(self, chart, gauges, start, told, event):
        """Tell whether what is told for a cell holds for this event."""
        came = slow_arrivals(chart, event)
        seen = [came[gauge] for gauge in gauges if gauge in came]
        unsafe = slow_unsafe(chart, came)
        if not seen:
            return start not in unsafe
        if told[0] == "silent":
            return False
        late = min(seen) - told[1]
        return is_safe(chart, [(place, minute + late) for place, minute in told[3]], unsafe)

    def test_what_is_told_holds_in_every_event(self):
        held = 0
        for chart, gauges in random_placings(120, sides=(1, 4), signs="1112aaab^##"):
            if len(chart.sources) <= 3:
                events = list(itertools.islice(all_events(chart, 7), 0, None, 3))
                for start in ground_of(chart):
                    told = warned(chart, gauges, start)
                    if told[0] in ("walk", "silent"):
                        held += len(told) == 4
                        self.assertTrue(all(self.holds(chart, gauges, start, told, event) for event in events))
        self.assertGreater(held, 60)

    def test_all_that_are_heard_are_heard_first_in_the_minute_of_the_worst_event(self):
        for chart, gauges in random_placings(80, sides=(1, 5), signs="1112aaab^##"):
            minute, event, deaf = slow_worst(chart, gauges)
            for start in ground_of(chart)[:1]:
                told = warned(chart, gauges, start)
                if len(told) == 4:
                    for source, time in told[2]:
                        came = slow_arrivals(chart, ((source, time),))
                        seen = [came[gauge] for gauge in gauges if gauge in came]
                        self.assertEqual(min(seen) if seen else None, None if source in deaf else told[1])
                        self.assertTrue(source not in deaf or max(came.values()) < told[1])


if __name__ == "__main__":
    unittest.main()
