"""Point 31: the texts of charts and of readings; and that point 32 reads them as they were."""

import random
import unittest

from helpers import (ALL_SIGNS, EXAMPLE, LAKES, LINE, ROAD, is_plain, places_of, random_charts, random_readings,
                     water_of)
from shorewarn.charts import Chart, check_readings
from shorewarn.texts import chart_of, chart_text, readings_of, readings_text


class ChartTextTest(unittest.TestCase):
    def test_example(self):
        self.assertEqual(chart_text(EXAMPLE), "111\naa#\n^aa\nsource 0 2\n")

    def test_one_cell(self):
        self.assertEqual(chart_text(Chart(("5",), ((0, 0),))), "5\nsource 0 0\n")

    def test_one_row_and_one_column(self):
        self.assertEqual(chart_text(LINE), "11111\nsource 0 0\nsource 0 4\n")
        self.assertEqual(chart_text(Chart(("1", "a", "9"), ((2, 0),))), "1\na\n9\nsource 2 0\n")

    def test_several_rows_and_sources(self):
        self.assertEqual(chart_text(LAKES), "11311\naaa^#\n11#12\nsource 0 0\nsource 0 4\nsource 2 0\n")
        self.assertEqual(chart_text(ALL_SIGNS), "1234567\n89abcde\nfghi^#1\n"
                         "source 0 0\nsource 0 3\nsource 1 1\nsource 2 6\n")

    def test_the_largest_chart(self):
        sources = tuple((row, 6) for row in range(1, 7))
        lines = ["1111111"] * 7 + [f"source {row} 6" for row in range(1, 7)]
        self.assertEqual(chart_text(Chart(("1111111",) * 7, sources)), "\n".join(lines) + "\n")

    def test_each_line_is_ended(self):
        for chart in random_charts(20):
            text = chart_text(chart)
            self.assertEqual(text.count("\n"), len(chart.rows) + len(chart.sources))
            self.assertTrue(text.endswith("\n") and "\n\n" not in text and " \n" not in text)


class ReadingsTextTest(unittest.TestCase):
    def test_no_gauge(self):
        for clock in (0, 1, 10, 90000):
            self.assertEqual(readings_text((), clock), f"clock {clock}\n")

    def test_at_and_silent(self):
        self.assertEqual(readings_text((((0, 1), 6),), 6), "clock 6\ngauge 0 1 at 6\n")
        self.assertEqual(readings_text((((0, 1), None),), 6), "clock 6\ngauge 0 1 silent\n")
        self.assertEqual(readings_text((((0, 1), 0),), 0), "clock 0\ngauge 0 1 at 0\n")
        self.assertEqual(readings_text((((6, 5), 90000),), 90000), "clock 90000\ngauge 6 5 at 90000\n")

    def test_several_gauges_in_order(self):
        readings = (((0, 0), 0), ((0, 4), None), ((2, 0), 10), ((2, 4), None))
        text = "clock 100\ngauge 0 0 at 0\ngauge 0 4 silent\ngauge 2 0 at 10\ngauge 2 4 silent\n"
        self.assertEqual(readings_text(readings, 100), text)


class ReadAsItWasTest(unittest.TestCase):
    def chart_again(self, chart):
        text = chart_text(chart)
        told = chart_of(text)
        self.assertIs(type(told), Chart)
        self.assertEqual(vars(told), vars(chart))
        self.assertTrue(is_plain(told.rows) and is_plain(told.sources))
        self.assertEqual(chart_text(told), text)

    def test_charts(self):
        for chart in (EXAMPLE, LINE, LAKES, ROAD, ALL_SIGNS, Chart(("5",), ((0, 0),))):
            self.chart_again(chart)
        for chart in random_charts(60):
            self.chart_again(chart)

    def test_charts_of_all_sizes(self):
        for height in range(1, 8):
            for width in range(1, 8):
                self.chart_again(Chart(("1" * width,) * height, ((height - 1, width - 1),)))

    def test_water_in_the_last_possible_row_only(self):
        self.chart_again(Chart(("aaa",) * 6 + ("##9",), ((6, 2),)))
        self.chart_again(Chart(("#",) * 6 + ("1",), ((6, 0),)))
        self.chart_again(Chart(("9##",) + ("aaa",) * 6, ((0, 0),)))

    def test_a_chart_is_read_alone(self):
        self.assertIsNot(chart_of("1\nsource 0 0\n"), chart_of("1\nsource 0 0\n"))

    def readings_again(self, chart, readings, clock):
        text = readings_text(readings, clock)
        told = readings_of(chart, text)
        self.assertEqual(told, (readings, clock))
        self.assertTrue(is_plain(told))
        self.assertIsNone(check_readings(chart, *told))

    def test_readings(self):
        for clock in (0, 1, 9, 10, 89999, 90000):
            self.readings_again(EXAMPLE, (), clock)
            self.readings_again(EXAMPLE, (((0, 1), None),), clock)
            self.readings_again(EXAMPLE, (((0, 0), 0), ((0, 1), clock), ((0, 2), None)), clock)

    def test_readings_that_no_event_explains(self):
        self.readings_again(EXAMPLE, (((0, 1), 1),), 6)

    def test_a_gauge_in_each_cell(self):
        chart = Chart(("1111111",) * 7, ((0, 0),))
        for last in (None, 0, 12345):
            readings = tuple((place, last if sum(place) % 2 else 7) for place in places_of(chart))
            self.readings_again(chart, readings, 12345)

    def test_many_readings(self):
        chance = random.Random(2)
        for chart in random_charts(60):
            clock = chance.randint(0, 300)
            self.readings_again(chart, random_readings(chart, chance, clock), clock)
            several = tuple((place, chance.choice((None, 0, clock))) for place in water_of(chart))
            self.readings_again(chart, several, clock)


if __name__ == "__main__":
    unittest.main()
