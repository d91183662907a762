"""Points 6, 8 and 11: what the checks of cells, events and readings refuse."""

import unittest

from helpers import ALL_SIGNS, EXAMPLE, LAND, WATER, outside_of, places_of, random_charts, sign_of
from shorewarn.charts import Chart, check_event, check_ground, check_readings, check_water
from shorewarn.errors import BadEvent, BadReadings, NoSuchCell


class CheckCellsTest(unittest.TestCase):
    def follows_the_signs(self, check, chart, signs):
        for place in places_of(chart):
            with self.subTest(rows=chart.rows, place=place):
                if sign_of(chart, place) in signs:
                    self.assertIsNone(check(chart, place))
                else:
                    with self.assertRaises(NoSuchCell):
                        check(chart, place)

    def refuses_outside(self, check, chart):
        for place in outside_of(chart) + [(100, 0), (0, -100)]:
            with self.subTest(rows=chart.rows, place=place):
                with self.assertRaises(NoSuchCell):
                    check(chart, place)

    def test_every_sign(self):
        for chart in random_charts(20) + [ALL_SIGNS, EXAMPLE]:
            self.follows_the_signs(check_water, chart, WATER)
            self.follows_the_signs(check_ground, chart, LAND + "^")

    def test_outside_of_the_chart(self):
        rows_of_water = Chart(("111", "111"), ((0, 0),))
        one_cell = Chart(("1",), ((0, 0),))
        for chart in (ALL_SIGNS, EXAMPLE, rows_of_water, one_cell):
            self.refuses_outside(check_water, chart)
        # Land all around, so that a negative index would find it.
        island = Chart(("aaa", "a1a", "^^^"), ((1, 1),))
        for chart in (ALL_SIGNS, EXAMPLE, island):
            self.refuses_outside(check_ground, chart)


class CheckEventTest(unittest.TestCase):
    chart = Chart(("11111", "aaa^#"), ((0, 0), (0, 2), (0, 4)))

    def taken(self, event):
        self.assertIsNone(check_event(self.chart, event))

    def refused(self, event):
        with self.subTest(event=event):
            with self.assertRaises(BadEvent):
                check_event(self.chart, event)

    def test_one_start_and_several(self):
        for source in self.chart.sources:
            self.taken(((source, 7),))
        self.taken((((0, 0), 9), ((0, 2), 3)))
        self.taken((((0, 0), 9), ((0, 4), 9)))
        self.taken((((0, 0), 9), ((0, 2), 3), ((0, 4), 5)))

    def test_times(self):
        for time in (0, 1, 99999, 100000):
            self.taken((((0, 0), time),))
            self.taken((((0, 0), 5), ((0, 4), time)))
        for time in (-100, -1, 100001, 200000):
            self.refused((((0, 0), time),))
            self.refused((((0, 0), time), ((0, 4), 5)))
            self.refused((((0, 0), 5), ((0, 4), time)))

    def test_no_start(self):
        self.refused(())

    def test_a_source_twice(self):
        self.refused((((0, 0), 5), ((0, 0), 5)))
        self.refused((((0, 0), 5), ((0, 0), 6)))
        self.refused((((0, 0), 5), ((0, 2), 5), ((0, 2), 4)))

    def test_out_of_order(self):
        self.refused((((0, 2), 5), ((0, 0), 6)))
        self.refused((((0, 0), 5), ((0, 4), 5), ((0, 2), 5)))

    def test_no_source(self):
        for place in ((0, 1), (0, 3), (1, 0), (1, 3), (1, 4)):
            self.refused(((place, 5),))
            self.refused(tuple(sorted([((0, 0), 5), (place, 5)])))
        for place in outside_of(self.chart):
            self.refused(((place, 5),))


class CheckReadingsTest(unittest.TestCase):
    def taken(self, readings, clock, chart=EXAMPLE):
        self.assertIsNone(check_readings(chart, readings, clock))

    def refused(self, readings, clock, chart=EXAMPLE):
        with self.subTest(readings=readings, clock=clock):
            with self.assertRaises(BadReadings):
                check_readings(chart, readings, clock)

    def test_no_gauge(self):
        for clock in (0, 1, 89999, 90000):
            self.taken((), clock)
        for clock in (-100, -1, 90001, 100000):
            self.refused((), clock)

    def test_clock(self):
        for clock in (0, 1, 89999, 90000):
            self.taken((((0, 0), None),), clock)
            self.taken((((0, 0), 0), ((0, 1), clock)), clock)
        for clock in (-1, 90001):
            self.refused((((0, 0), None),), clock)
            self.refused((((0, 0), 0),), clock)
            self.refused((((0, 0), clock),), clock)

    def test_times(self):
        for time in (None, 0, 1, 5, 6):
            self.taken((((0, 1), time),), 6)
            self.taken((((0, 0), 3), ((0, 1), time), ((0, 2), None)), 6)
        for time in (-7, -1, 7, 100000):
            self.refused((((0, 1), time),), 6)
            self.refused((((0, 0), 3), ((0, 1), time), ((0, 2), None)), 6)
        self.taken((((0, 1), 0),), 0)
        self.refused((((0, 1), 1),), 0)
        self.taken((((0, 1), 90000),), 90000)
        self.refused((((0, 1), 90001),), 90000)

    def test_gauges_need_not_be_sources(self):
        self.taken((((0, 0), 1),), 6)
        self.taken((((0, 2), 1),), 6)

    def test_more_gauges_than_sources_can_be(self):
        chart = Chart(("1111111",) * 7, ((0, 0),))
        self.taken(tuple((place, None) for place in places_of(chart)), 0, chart)

    def test_a_gauge_twice(self):
        self.refused((((0, 1), 3), ((0, 1), 3)), 6)
        self.refused((((0, 1), None), ((0, 1), 3)), 6)
        self.refused((((0, 0), 1), ((0, 1), None), ((0, 1), None)), 6)

    def test_out_of_order(self):
        self.refused((((0, 1), 3), ((0, 0), 4)), 6)
        self.refused((((0, 0), None), ((0, 2), None), ((0, 1), None)), 6)

    def test_a_gauge_that_is_no_water(self):
        for place in places_of(ALL_SIGNS):
            if sign_of(ALL_SIGNS, place) in WATER:
                self.taken(((place, None),), 6, ALL_SIGNS)
            else:
                self.refused(((place, None),), 6, ALL_SIGNS)
                self.refused(((place, 3),), 6, ALL_SIGNS)
                self.refused((((0, 0), None), (place, 3)), 6, ALL_SIGNS)

    def test_a_gauge_outside(self):
        lake = Chart(("111", "111"), ((0, 0),))
        for place in outside_of(lake):
            self.refused(((place, None),), 6, lake)
            self.refused(((place, 3),), 6, lake)


if __name__ == "__main__":
    unittest.main()
