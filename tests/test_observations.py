"""Point 28: observations, and in which order what is wrong with them is refused."""

import random
import unittest

from helpers import EXAMPLE, LAKES, LINE, outside_of, places_of
from shorewarn.charts import Chart
from shorewarn.errors import AlreadyReported, ClockBack, NotAGauge, NotExplained, NotInTime, TooManyDeeds
from shorewarn.forecasts import explained
from shorewarn.watches import Watch
from watching import ALL, ROW, WatchCase, state


class ClockBackTest(WatchCase):
    def test_not_greater_than_the_clock(self):
        watch = Watch(EXAMPLE, ((0, 1),))
        for clock in (-100, -1, 0):
            self.refused(ClockBack, watch, clock, ())
        self.taken(watch, 1)
        for clock in (-1, 0, 1):
            self.refused(ClockBack, watch, clock, ())
        self.taken(watch, 50)
        for clock in (0, 1, 49, 50):
            self.refused(ClockBack, watch, clock, ())
        self.taken(watch, 51)

    def test_the_greatest_clock(self):
        watch = Watch(EXAMPLE, ((0, 1),))
        for clock in (90001, 90002, 100000, 10 ** 9):
            self.refused(ClockBack, watch, clock, ())
        self.taken(watch, 90000)
        for clock in (90000, 90001):
            self.refused(ClockBack, watch, clock, ())
        watch = Watch(EXAMPLE, ((0, 1),))
        self.taken(watch, 90000, (((0, 1), 90000),))


class ReportsTest(WatchCase):
    def test_no_report(self):
        watch = Watch(EXAMPLE, ((0, 0), (0, 1)))
        self.taken(watch, 5)
        self.assertEqual(watch.readings(), (((0, 0), None), ((0, 1), None)))

    def test_reports_in_any_order(self):
        for reports in ((((0, 1), 2), ((0, 2), 4)), (((0, 2), 4), ((0, 1), 2))):
            watch = Watch(ROW, ALL[1:])
            self.taken(watch, 4, reports)
            self.assertEqual(watch.readings(), (((0, 1), 2), ((0, 2), 4), ((0, 3), None), ((0, 4), None)))
            self.assertEqual(watch.log(), ((4, reports),))

    def test_reports_in_several_observations(self):
        watch = Watch(ROW, ALL)
        self.taken(watch, 3, (((0, 0), 1), ((0, 1), 3)))
        self.taken(watch, 4)
        self.taken(watch, 8, (((0, 3), 7), ((0, 2), 5)))
        self.taken(watch, 9, (((0, 4), 9),))
        self.assertEqual(watch.readings(), tuple(zip(ALL, (1, 3, 5, 7, 9))))
        self.taken(watch, 90000)

    def test_no_gauge_of_the_watch(self):
        watch = Watch(LAKES, ((0, 1), (2, 0)))
        for place in places_of(LAKES) + outside_of(LAKES):
            if place not in ((0, 1), (2, 0)):
                self.refused(NotAGauge, watch, 5, ((place, 5),))
                self.refused(NotAGauge, watch, 5, (((0, 1), 5), (place, 5)))
                self.refused(NotAGauge, watch, 5, ((place, 5), ((0, 1), 5)))
        self.refused(NotAGauge, Watch(EXAMPLE, ()), 5, (((0, 1), 5),))
        self.taken(watch, 5, (((0, 1), 5),))

    def test_reported_already_by_an_earlier_observation(self):
        watch = Watch(ROW, ALL)
        self.taken(watch, 1, (((0, 0), 1),))
        for clock, time in ((2, 2), (3, 2), (3, 1)):
            self.refused(AlreadyReported, watch, clock, (((0, 0), time),))
        self.taken(watch, 2)
        self.refused(AlreadyReported, watch, 3, (((0, 0), 3),))
        self.refused(AlreadyReported, watch, 3, (((0, 1), 3), ((0, 0), 3)))
        self.taken(watch, 3, (((0, 1), 3),))

    def test_a_gauge_twice_in_one_observation(self):
        watch = Watch(ROW, ALL)
        self.refused(AlreadyReported, watch, 5, (((0, 0), 1), ((0, 0), 1)))
        self.refused(AlreadyReported, watch, 5, (((0, 0), 1), ((0, 0), 2)))
        self.refused(AlreadyReported, watch, 5, (((0, 0), 1), ((0, 1), 3), ((0, 0), 1)))
        self.taken(watch, 4, (((0, 0), 1), ((0, 1), 3)))

    def test_reported_again_behind_an_undone_observation(self):
        watch = Watch(ROW, ALL)
        self.taken(watch, 1, (((0, 0), 1),))
        self.assertTrue(watch.undo())
        self.taken(watch, 4, (((0, 0), 2), ((0, 1), 4)))

    def test_times(self):
        for time in (-100, -1, 0, 6, 7, 90000, 100000):
            self.refused(NotInTime, Watch(EXAMPLE, ((0, 2),)), 5, (((0, 2), time),))
        for time in (1, 2, 3, 4, 5):
            self.taken(Watch(EXAMPLE, ((0, 2),)), 5, (((0, 2), time),))
        for time in (0, 9, 10, 16, 17):
            watch = Watch(EXAMPLE, ((0, 2),))
            self.taken(watch, 10)
            self.refused(NotInTime, watch, 15, (((0, 2), time),))
        for time in (11, 12, 14, 15):
            watch = Watch(EXAMPLE, ((0, 2),))
            self.taken(watch, 10)
            self.taken(watch, 15, (((0, 2), time),))

    def test_the_only_minute_that_is_left(self):
        watch = Watch(EXAMPLE, ((0, 2),))
        self.taken(watch, 10)
        for time in (9, 10, 12):
            self.refused(NotInTime, watch, 11, (((0, 2), time),))
        self.taken(watch, 11, (((0, 2), 11),))


class NotExplainedTest(WatchCase):
    def test_with_its_refutation(self):
        watch = Watch(EXAMPLE, ((0, 0), (0, 1)))
        error = self.refused(NotExplained, watch, 6, (((0, 1), 1),))
        self.assertEqual(error.refutation, ((0, 1), (("start",),)))
        # The wave at (0, 0) came over (0, 1).
        error = self.refused(NotExplained, watch, 6, (((0, 0), 6),))
        self.assertEqual(error.refutation, ((0, 0), (("reading", (0, 1)),)))
        self.taken(watch, 6, (((0, 1), 4), ((0, 0), 6)))

    def test_by_readings_so_far(self):
        watch = Watch(ROW, ALL)
        self.taken(watch, 1, (((0, 0), 1),))
        self.refused(NotExplained, watch, 2, (((0, 1), 2),))
        self.refused(NotExplained, watch, 4, (((0, 1), 4),))
        self.taken(watch, 3, (((0, 1), 3),))

    def test_by_the_new_clock(self):
        # At 3 the wave that was at (0, 0) at 1 comes to (0, 1).
        watch = Watch(ROW, ALL)
        self.taken(watch, 2, (((0, 0), 1),))
        error = self.refused(NotExplained, watch, 3, ())
        self.assertEqual(error.refutation, ((0, 0), (("reading", (0, 1)),)))
        self.refused(NotExplained, watch, 90000, ())
        self.taken(watch, 3, (((0, 1), 3),))

    def test_by_a_reading_of_none_that_is_old(self):
        watch = Watch(EXAMPLE, ((0, 0),))
        self.taken(watch, 3)
        self.taken(watch, 4, (((0, 0), 4),))
        watch = Watch(EXAMPLE, ((0, 0),))
        self.refused(NotExplained, watch, 3, (((0, 0), 3),))


class OrderTest(WatchCase):
    """Two or more things that are wrong at once; the first one in the order of point 28 counts."""

    # Reports that are wrong at the clock 4 in one way alone.
    no_gauge = ((0, 3), 4)
    again = ((0, 0), 4)
    late = ((0, 1), 5)
    early = ((0, 1), 3)
    unexplained = ((0, 2), 4)
    good = ((0, 1), 4)

    def setUp(self):
        self.watch = Watch(ROW, ((0, 0), (0, 1), (0, 2)))
        self.taken(self.watch, 3, (((0, 0), 2),))

    def test_each_by_itself(self):
        for error, report in ((NotAGauge, self.no_gauge), (AlreadyReported, self.again), (NotInTime, self.late),
                              (NotInTime, self.early), (NotExplained, self.unexplained)):
            self.refused(error, self.watch, 4, (report,))
            self.refused(error, self.watch, 4, (self.good, report) if report[0] != (0, 1) else (report,))
        self.taken(self.watch, 4, (self.good,))

    def test_the_clock_counts_first(self):
        for report in (self.no_gauge, self.again, self.late, self.early, self.unexplained):
            for clock in (0, 3, 90001):
                self.refused(ClockBack, self.watch, clock, (report,))

    def test_within_one_report(self):
        for time in (0, 3, 5):
            self.refused(NotAGauge, self.watch, 4, (((0, 3), time),))
            self.refused(NotAGauge, self.watch, 4, (((-1, 0), time),))
            self.refused(AlreadyReported, self.watch, 4, (((0, 0), time),))

    def test_in_two_reports_the_first_one_counts(self):
        wrong = ((NotAGauge, self.no_gauge), (AlreadyReported, self.again), (NotInTime, self.late))
        for one, first in wrong:
            for _, second in wrong:
                self.refused(one, self.watch, 4, (first, second))
            self.refused(one, self.watch, 4, (first, self.unexplained))
            self.refused(one, self.watch, 4, (self.unexplained, first))

    def test_a_gauge_twice_counts_by_its_second_report(self):
        self.refused(NotAGauge, self.watch, 4, (self.good, self.no_gauge, self.good))
        self.refused(AlreadyReported, self.watch, 4, (self.good, self.good, self.no_gauge))
        self.refused(AlreadyReported, self.watch, 4, (self.good, self.late))
        self.refused(NotInTime, self.watch, 4, (self.late, self.good))

    def test_too_many_counts_behind_the_reports_and_ahead_of_explaining(self):
        watch = Watch(ROW, ((0, 0), (0, 1), (0, 2)))
        for clock in range(1, 20):
            self.taken(watch, clock)
        self.taken(watch, 20, (((0, 0), 20),))
        self.refused(ClockBack, watch, 20, ())
        self.refused(ClockBack, watch, 90001, ())
        self.refused(NotAGauge, watch, 21, (((0, 3), 21),))
        self.refused(AlreadyReported, watch, 21, (((0, 0), 21),))
        self.refused(NotInTime, watch, 21, (((0, 1), 22),))
        self.refused(TooManyDeeds, watch, 21, (((0, 1), 21),))
        self.refused(TooManyDeeds, watch, 90000, ())
        self.refused(TooManyDeeds, watch, 21, ())
        self.assertTrue(watch.undo())
        self.refused(NotExplained, watch, 21, (((0, 1), 20), ((0, 0), 21)))


class Model:
    """A slow watch: each observation keeps all that was before it."""

    def __init__(self, chart, gauges):
        self.chart = chart
        self.now = ({gauge: None for gauge in gauges}, 0, ())
        self.before = []

    def error(self, clock, reports):
        seen, old, _ = self.now
        new = dict(seen)
        if clock <= old or clock > 90000:
            return ClockBack, new
        for gauge, time in reports:
            if gauge not in new:
                return NotAGauge, new
            if new[gauge] is not None:
                return AlreadyReported, new
            if time <= old or time > clock:
                return NotInTime, new
            new[gauge] = time
        if len(self.before) == 20:
            return TooManyDeeds, new
        if explained(self.chart, tuple(sorted(new.items())), clock)[0] == "refuted":
            return NotExplained, new
        return None, new

    def observe(self, clock, reports):
        error, new = self.error(clock, reports)
        if error is None:
            self.before.append(self.now)
            self.now = (new, clock, self.now[2] + ((clock, reports),))
        return error

    def undo(self):
        if not self.before:
            return False
        self.now = self.before.pop()
        return True


class ModelTest(WatchCase):
    def deed(self, chance, watch, model):
        if not chance.randint(0, 6):
            self.assertIs(watch.undo(), model.undo())
            return "undo"
        clock = watch.clock() + chance.choice((0, 1, 1, 2, 3, 4))
        several = ((0, 0), (0, 1), (0, 2), (0, 3), (1, 0))
        reports = tuple((chance.choice(several), clock - chance.choice((-1, 0, 0, 0, 1, 2)))
                        for _ in range(chance.choice((0, 0, 0, 1, 1, 2))))
        error = model.observe(clock, reports)
        if error is None:
            self.taken(watch, clock, reports)
        else:
            self.refused(error, watch, clock, reports)
        return error

    def test_many_deeds(self):
        chance = random.Random(29)
        deeds = []
        for chart in (LINE, Chart(("1#11", "a^##"), ((0, 0), (0, 2))), ROW):
            gauges = ((0, 0), (0, 2), (0, 3)) if chart.rows[0][1] == "#" else ((0, 0), (0, 1), (0, 2))
            for _ in range(60):
                watch, model = Watch(chart, gauges), Model(chart, gauges)
                for _ in range(60):
                    deeds.append(self.deed(chance, watch, model))
                    seen, clock, log = model.now
                    self.assertEqual(state(watch), (tuple(sorted(seen.items())), clock, log))
                    if not chance.randint(0, 9):
                        watch = watch.fork()
        for kind in (None, "undo", ClockBack, NotAGauge, AlreadyReported, NotInTime, TooManyDeeds, NotExplained):
            self.assertGreater(deeds.count(kind), 30, kind)


if __name__ == "__main__":
    unittest.main()
