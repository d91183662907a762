"""Points 27, 29 and 30: watches, undoing, the log, forks, and what a watch tells; the example of point 2."""

import random
import unittest

from helpers import (ALL_SIGNS, EXAMPLE, LAKES, LAND, LINE, ROAD, WATER, is_plain, outside_of, places_of,
                     random_charts, sign_of, slow_arrivals, water_of)
from shorewarn import escapes, forecasts
from shorewarn.charts import Chart, check_readings
from shorewarn.errors import (AlreadyReported, BadReadings, ClockBack, NoSuchCell, NotExplained, NotInTime,
                              TooManyDeeds)
from shorewarn.watches import Watch
from watching import ALL, ROW, WatchCase, state


class ExampleTest(WatchCase):
    """Point 2, through a watch."""

    def setUp(self):
        self.watch = Watch(Chart(("111", "aa#", "^aa"), ((0, 2),)), ((0, 1),))
        self.taken(self.watch, 6, (((0, 1), 6),))

    def test_the_wave(self):
        self.assertEqual(self.watch.readings(), (((0, 1), 6),))
        self.assertEqual(self.watch.earliest(), ((8, 6, 4), (None, None, None), (None, None, None)))
        self.assertEqual(self.watch.latest(), ((8, 6, 4), (None, None, None), (None, None, None)))

    def test_the_last_walk_that_is_sure(self):
        told = ("minute", 7, (((1, 0), 7), ((2, 0), 8)), (((0, 2), 4),), (((1, 0), 8),))
        self.assertEqual(self.watch.last_minute((1, 0)), told)
        self.assertEqual(self.watch.escape((1, 0)), ("walk", (((1, 0), 6), ((2, 0), 7))))
        self.watch.observe(7, ())
        self.assertEqual(self.watch.escape((1, 0)), ("walk", (((1, 0), 7), ((2, 0), 8))))
        self.watch.observe(8, ())
        self.assertEqual(self.watch.escape((1, 0)), ("cut", (((0, 2), 4),), (((1, 0), 8),)))

    def test_no_walk_any_more(self):
        self.assertEqual(self.watch.escape((1, 1)), ("cut", (((0, 2), 4),), (((1, 1), 6),)))
        self.assertEqual(self.watch.last_minute((1, 1)), ("never", (((0, 2), 4),), (((1, 1), 6),)))


class NewWatchTest(WatchCase):
    def begins(self, chart, gauges):
        watch = Watch(chart, gauges)
        self.assertEqual(state(watch), (tuple((gauge, None) for gauge in gauges), 0, ()))
        self.assertTrue(is_plain(state(watch)))

    def test_no_gauge_and_several(self):
        for gauges in ((), ((0, 1),), ((0, 0), (0, 2)), ((0, 0), (0, 1), (0, 2))):
            self.begins(EXAMPLE, gauges)
        self.begins(LAKES, ((0, 4), (2, 0)))
        self.begins(Chart(("1111111",) * 7, ((0, 0),)), tuple((row, column) for row in range(7) for column in range(7)))

    def test_by_name(self):
        self.assertEqual(Watch(chart=EXAMPLE, gauges=()).readings(), ())

    def none(self, chart, gauges):
        with self.subTest(gauges=gauges):
            with self.assertRaises(BadReadings):
                Watch(chart, gauges)

    def test_out_of_order(self):
        self.none(EXAMPLE, ((0, 1), (0, 0)))
        self.none(EXAMPLE, ((0, 0), (0, 2), (0, 1)))
        self.none(LAKES, ((2, 0), (0, 4)))

    def test_twice(self):
        self.none(EXAMPLE, ((0, 1), (0, 1)))
        self.none(EXAMPLE, ((0, 0), (0, 2), (0, 2)))
        self.none(EXAMPLE, ((0, 0), (0, 2), (0, 0)))

    def test_no_water_cell(self):
        for place in places_of(ALL_SIGNS):
            if sign_of(ALL_SIGNS, place) in WATER:
                self.begins(ALL_SIGNS, (place,))
            else:
                self.none(ALL_SIGNS, (place,))
                self.none(ALL_SIGNS, ((0, 0), place))

    def test_outside_of_the_chart(self):
        lake = Chart(("111", "111"), ((0, 0),))
        for place in outside_of(lake):
            self.none(lake, (place,))
            self.none(lake, tuple(sorted([(0, 0), place])))


class UndoTest(WatchCase):
    def test_to_the_beginning(self):
        watch = Watch(ROW, ALL)
        states = [state(watch)]
        for clock, reports in ((1, ()), (3, (((0, 0), 2),)), (4, (((0, 1), 4),)), (6, (((0, 2), 6),)), (7, ())):
            self.taken(watch, clock, reports)
            states.append(state(watch))
        while len(states) > 1:
            self.assertEqual(state(watch), states.pop())
            self.assertIs(watch.undo(), True)
        for _ in range(3):
            self.assertEqual(state(watch), states[0])
            self.assertIs(watch.undo(), False)

    def test_a_new_watch(self):
        watch = Watch(EXAMPLE, ((0, 1),))
        self.assertIs(watch.undo(), False)
        self.assertEqual(state(watch), ((((0, 1), None),), 0, ()))

    def test_what_is_refused_is_not_undone(self):
        watch = Watch(EXAMPLE, ((0, 1),))
        self.taken(watch, 5)
        self.refused(NotInTime, watch, 9, (((0, 1), 3),))
        self.refused(ClockBack, watch, 5, ())
        self.assertIs(watch.undo(), True)
        self.assertIs(watch.undo(), False)

    def test_twenty_observations(self):
        watch = Watch(EXAMPLE, ((0, 1),))
        for clock in range(1, 21):
            self.taken(watch, clock * 10)
        self.refused(TooManyDeeds, watch, 201, ())
        self.assertIs(watch.undo(), True)
        self.taken(watch, 191, (((0, 1), 191),))
        self.refused(TooManyDeeds, watch, 192, ())
        self.assertEqual([clock for clock, _ in watch.log()], [*range(10, 200, 10), 191])
        for _ in range(20):
            self.assertIs(watch.undo(), True)
        self.assertIs(watch.undo(), False)
        for clock in range(1, 21):
            self.taken(watch, clock)
        self.refused(TooManyDeeds, watch, 21, ())


class LogTest(WatchCase):
    def test_the_reports_as_given(self):
        watch = Watch(ROW, ALL)
        reports = (((0, 2), 5), ((0, 0), 1), ((0, 1), 3))
        self.taken(watch, 5, reports)
        self.taken(watch, 6)
        self.assertEqual(watch.log(), ((5, reports), (6, ())))
        watch.undo()
        self.assertEqual(watch.log(), ((5, reports),))

    def test_a_log_that_was_told_stays(self):
        watch = Watch(EXAMPLE, ((0, 1),))
        empty = watch.log()
        self.taken(watch, 5)
        one = watch.log()
        self.taken(watch, 6)
        watch.undo()
        watch.undo()
        self.assertEqual((empty, one), ((), ((5, ()),)))


class ForkTest(WatchCase):
    def setUp(self):
        self.watch = Watch(ROW, ALL)
        self.taken(self.watch, 1)
        self.taken(self.watch, 3, (((0, 0), 2),))

    def test_has_all_that_its_original_has(self):
        other = self.watch.fork()
        self.assertIs(type(other), Watch)
        self.assertIsNot(other, self.watch)
        self.assertEqual(state(other), state(self.watch))
        self.assertEqual(other.earliest(), self.watch.earliest())
        self.assertEqual(other.last_minute((1, 2)), self.watch.last_minute((1, 2)))
        self.refused(AlreadyReported, other, 4, (((0, 0), 4),))
        self.assertEqual([other.undo(), other.undo(), other.undo()], [True, True, False])
        self.assertEqual(state(other), state(Watch(ROW, ALL)))

    def test_deeds_on_one_change_nothing_of_the_other(self):
        for one, two in ((self.watch, self.watch.fork()), (self.watch.fork(), self.watch)):
            before = state(two)
            self.taken(one, 4, (((0, 1), 4),))
            self.assertEqual(state(two), before)
            self.refused(NotExplained, two, 4, ())
            one.undo()
            one.undo()
            self.assertEqual(state(two), before)
            self.taken(one, 2, (((0, 0), 2),))
            self.assertEqual(state(two), before)
            self.taken(two, 4, (((0, 1), 4),))
            self.assertEqual(one.clock(), 2)
            two.undo()
            one.undo()
            self.taken(one, 3, (((0, 0), 2),))

    def test_a_fork_of_a_fork(self):
        other = self.watch.fork().fork()
        self.watch.undo()
        self.assertEqual(other.clock(), 3)

    def test_a_new_watch(self):
        other = Watch(EXAMPLE, ()).fork()
        self.assertEqual(state(other), ((), 0, ()))
        self.taken(other, 7)

    def test_as_many_deeds_are_left(self):
        watch = Watch(EXAMPLE, ((0, 1),))
        for clock in range(1, 21):
            self.taken(watch, clock)
        other = watch.fork()
        self.refused(TooManyDeeds, other, 21, ())
        self.assertTrue(other.undo())
        self.taken(other, 21)
        self.refused(TooManyDeeds, watch, 21, ())


class TellsTest(WatchCase):
    def follow(self, chart, watch):
        """Check that the watch tells what the functions tell."""
        now = (chart, watch.readings(), watch.clock())
        self.assertIsNone(check_readings(*now))
        self.assertEqual(watch.earliest(), forecasts.earliest(*now))
        self.assertEqual(watch.latest(), forecasts.latest(*now))
        for place in places_of(chart) + outside_of(chart):
            if place in places_of(chart) and sign_of(chart, place) in LAND + "^":
                self.assertEqual(watch.escape(place), escapes.escape(*now, place, watch.clock()))
                self.assertEqual(watch.last_minute(place), escapes.last_minute(*now, place))
            else:
                for call in (watch.escape, watch.last_minute):
                    with self.assertRaises(NoSuchCell):
                        call(place)
        self.assertEqual(now[1:], (watch.readings(), watch.clock()))

    def test_new_watches(self):
        for chart in (EXAMPLE, LAKES, LINE, ROAD, ALL_SIGNS):
            self.follow(chart, Watch(chart, ()))
            self.follow(chart, Watch(chart, chart.sources))

    def test_a_cell_that_is_no_ground(self):
        watch = Watch(EXAMPLE, ((0, 1),))
        for place in ((0, 0), (0, 1), (0, 2), (1, 2), (3, 0), (0, 3), (-1, 0), (-2, 0), (1, -3), (100, 100)):
            for call in (watch.escape, watch.last_minute):
                with self.subTest(place=place):
                    with self.assertRaises(NoSuchCell):
                        call(place)

    def test_as_the_clock_goes_on(self):
        watch = Watch(ROAD, ((0, 0), (0, 2)))
        for clock, reports in ((3, ()), (5, (((0, 0), 4),)), (19, ()), (20, (((0, 2), 20),)), (24, ()), (90000, ())):
            self.taken(watch, clock, reports)
            self.follow(ROAD, watch)
        self.assertEqual(watch.escape((1, 4))[0], "cut")
        while watch.undo():
            self.follow(ROAD, watch)

    def test_watches_that_see_an_event(self):
        chance = random.Random(23)
        for chart in random_charts(40, (1, 5), "1112aab^#"):
            water = water_of(chart)
            gauges = tuple(sorted(chance.sample(water, min(len(water), chance.randint(0, 4)))))
            event = [(source, chance.randint(1, 12)) for source in chart.sources if chance.randint(0, 2)]
            came = slow_arrivals(chart, event)
            watch = Watch(chart, gauges)
            clock = 0
            while clock < 20:
                before, clock = clock, clock + chance.randint(1, 8)
                reports = [(gauge, came[gauge]) for gauge in gauges if before < came.get(gauge, 0) <= clock]
                chance.shuffle(reports)
                self.taken(watch, clock, tuple(reports))
                self.follow(chart, watch)
                if not chance.randint(0, 3):
                    watch.undo()
                    self.follow(chart, watch)
                    clock = watch.clock()


if __name__ == "__main__":
    unittest.main()
