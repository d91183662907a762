"""Points 4 to 6: charts, cells, and cells beside each other."""

import unittest

from helpers import ALL_SIGNS, EXAMPLE, LAND, SIGNS, is_plain, outside_of, places_of, random_charts, sign_of
from shorewarn.charts import Chart, beside, cells, with_high
from shorewarn.errors import BadChart, ShoreError


class TakenChartsTest(unittest.TestCase):
    def taken(self, rows, sources):
        chart = Chart(rows, sources)
        self.assertEqual(vars(chart)["rows"], rows)
        self.assertEqual(vars(chart)["sources"], sources)
        self.assertIs(type(chart.rows), tuple)
        self.assertIs(type(chart.sources), tuple)

    def test_all_sizes(self):
        for height in range(1, 8):
            for width in range(1, 8):
                with self.subTest(height=height, width=width):
                    self.taken(("1" * width,) * height, ((height - 1, width - 1),))

    def test_all_signs(self):
        self.taken(ALL_SIGNS.rows, ALL_SIGNS.sources)
        for sign in SIGNS:
            with self.subTest(sign=sign):
                self.taken(("1" + sign,), ((0, 0),))
                self.taken(("1", sign), ((0, 0),))

    def test_each_water_sign_can_be_a_source(self):
        for sign in "123456789":
            with self.subTest(sign=sign):
                self.taken((sign,), ((0, 0),))

    def test_one_to_six_sources(self):
        places = ((0, 0), (0, 2), (1, 1), (2, 0), (2, 1), (2, 2))
        for number in range(1, 7):
            with self.subTest(number=number):
                self.taken(("111", "111", "111"), places[:number])

    def test_sources_are_ordered_as_tuples(self):
        self.taken(("11", "11"), ((0, 1), (1, 0)))

    def test_example(self):
        self.taken(("111", "aa#", "^aa"), ((0, 2),))


class RefusedChartsTest(unittest.TestCase):
    def refused(self, rows, sources=((0, 0),)):
        with self.subTest(rows=rows, sources=sources):
            with self.assertRaises(BadChart):
                Chart(rows, sources)

    def test_no_row(self):
        self.refused(())
        self.refused((), ())

    def test_an_empty_row(self):
        self.refused(("",))
        self.refused(("", ""))
        self.refused(("1", ""))
        self.refused(("", "1"), ((1, 0),))

    def test_rows_of_different_lengths(self):
        self.refused(("11", "1"))
        self.refused(("1", "11"))
        self.refused(("11", "11", "111"))
        self.refused(("111", "11", "111"))

    def test_too_many_rows_or_columns(self):
        for number in (8, 9, 20):
            self.refused(("1",) * number)
            self.refused(("1" * number,))
            self.refused(("1" * number,) * 7)
            self.refused(("1111111",) * number)

    def test_one_row_of_many_too_long(self):
        self.refused(("1111111", "11111111"))

    def test_signs_outside_of_point_4(self):
        others = [chr(code) for code in range(32, 127) if chr(code) not in SIGNS] + ["\n"]
        self.assertEqual(len(others), 95 - 20 + 1)
        for sign in others:
            self.refused(("1" + sign,))
            self.refused(("11", sign + "1"))
            self.refused(("11", "1" + sign))

    def test_a_source_with_such_a_sign(self):
        for sign in "0j A":
            self.refused((sign,))

    def test_number_of_sources(self):
        places = ((0, 0), (0, 1), (0, 2), (1, 0), (1, 1), (1, 2), (2, 0), (2, 1))
        rows = ("111", "111", "111")
        self.refused(rows, ())
        self.refused(rows, places[:7])
        self.refused(rows, places)

    def test_order_of_sources(self):
        rows = ("111", "111", "111")
        self.refused(rows, ((0, 1), (0, 0)))
        self.refused(rows, ((1, 0), (0, 2)))
        self.refused(rows, ((0, 0), (0, 2), (0, 1)))
        self.refused(rows, ((0, 0), (2, 0), (1, 2), (2, 2)))

    def test_a_source_twice(self):
        rows = ("111", "111", "111")
        self.refused(rows, ((0, 0), (0, 0)))
        self.refused(rows, ((0, 0), (1, 1), (1, 1)))
        self.refused(rows, ((0, 0), (1, 1), (0, 0)))

    def test_a_source_that_is_no_water(self):
        for sign in LAND + "^#":
            self.refused((sign,))
            self.refused(("1" + sign,), ((0, 1),))
            self.refused(("1" + sign,), ((0, 0), (0, 1)))
            self.refused((sign + "1",), ((0, 0), (0, 1)))

    def test_a_source_outside(self):
        for rows in (("1",), ("111", "111"), ("1111111",) * 7):
            chart = Chart(rows, ((0, 0),))
            for place in outside_of(chart):
                self.refused(rows, (place,))
                self.refused(rows, tuple(sorted([(0, 0), place])))

    def test_is_an_error_of_the_program(self):
        with self.assertRaises(ShoreError):
            Chart((), ())
        with self.assertRaises(ValueError):
            Chart((), ())


class CellsTest(unittest.TestCase):
    def test_example(self):
        self.assertEqual(cells(EXAMPLE), ((0, 0), (0, 1), (0, 2), (1, 0), (1, 1), (1, 2), (2, 0), (2, 1), (2, 2)))

    def test_one_cell_one_row_one_column(self):
        self.assertEqual(cells(Chart(("1",), ((0, 0),))), ((0, 0),))
        self.assertEqual(cells(Chart(("1a#",), ((0, 0),))), ((0, 0), (0, 1), (0, 2)))
        self.assertEqual(cells(Chart(("1", "a", "#"), ((0, 0),))), ((0, 0), (1, 0), (2, 0)))

    def test_all_ascending(self):
        for chart in random_charts(40):
            found = cells(chart)
            self.assertEqual(found, tuple(sorted(places_of(chart))))
            self.assertEqual(len(found), len(chart.rows) * len(chart.rows[0]))
            self.assertTrue(is_plain(found))


class BesideTest(unittest.TestCase):
    def test_example_of_the_interface(self):
        self.assertEqual(beside(EXAMPLE, (1, 0)), ((0, 0), (1, 1), (2, 0)))

    def test_corners(self):
        self.assertEqual(beside(EXAMPLE, (0, 0)), ((0, 1), (1, 0)))
        self.assertEqual(beside(EXAMPLE, (0, 2)), ((0, 1), (1, 2)))
        self.assertEqual(beside(EXAMPLE, (2, 0)), ((1, 0), (2, 1)))
        self.assertEqual(beside(EXAMPLE, (2, 2)), ((1, 2), (2, 1)))

    def test_edges(self):
        self.assertEqual(beside(EXAMPLE, (0, 1)), ((0, 0), (0, 2), (1, 1)))
        self.assertEqual(beside(EXAMPLE, (1, 2)), ((0, 2), (1, 1), (2, 2)))
        self.assertEqual(beside(EXAMPLE, (2, 1)), ((1, 1), (2, 0), (2, 2)))

    def test_inside(self):
        self.assertEqual(beside(EXAMPLE, (1, 1)), ((0, 1), (1, 0), (1, 2), (2, 1)))

    def test_one_row(self):
        chart = Chart(("1a#",), ((0, 0),))
        self.assertEqual(beside(chart, (0, 0)), ((0, 1),))
        self.assertEqual(beside(chart, (0, 1)), ((0, 0), (0, 2)))
        self.assertEqual(beside(chart, (0, 2)), ((0, 1),))

    def test_one_column(self):
        chart = Chart(("1", "^", "#"), ((0, 0),))
        self.assertEqual(beside(chart, (0, 0)), ((1, 0),))
        self.assertEqual(beside(chart, (1, 0)), ((0, 0), (2, 0)))
        self.assertEqual(beside(chart, (2, 0)), ((1, 0),))

    def test_one_cell(self):
        self.assertEqual(beside(Chart(("5",), ((0, 0),)), (0, 0)), ())

    def test_the_kind_of_the_cells_does_not_matter(self):
        for sign in SIGNS:
            with self.subTest(sign=sign):
                chart = Chart(("1#1", "a" + sign + "^", "i#9"), ((0, 0),))
                self.assertEqual(beside(chart, (1, 1)), ((0, 1), (1, 0), (1, 2), (2, 1)))
                self.assertEqual(beside(chart, (0, 1)), ((0, 0), (0, 2), (1, 1)))

    def test_neighbors_in_a_row_or_in_a_column(self):
        for chart in random_charts(20) + [ALL_SIGNS]:
            for place in places_of(chart):
                near = [other for other in places_of(chart)
                        if abs(place[0] - other[0]) + abs(place[1] - other[1]) == 1]
                self.assertEqual(beside(chart, place), tuple(near))
                self.assertTrue(is_plain(beside(chart, place)))


class WithHighTest(unittest.TestCase):
    def test_some_cells(self):
        chart = with_high(EXAMPLE, ((1, 1), (2, 2)))
        self.assertEqual(chart.rows, ("111", "a^#", "^a^"))
        self.assertEqual(chart.sources, ((0, 2),))
        self.assertIs(type(chart), Chart)
        self.assertTrue(is_plain(chart.rows) and is_plain(chart.sources))

    def test_no_cell(self):
        chart = with_high(EXAMPLE, ())
        self.assertEqual((chart.rows, chart.sources), (EXAMPLE.rows, EXAMPLE.sources))
        self.assertIs(type(chart), Chart)

    def test_the_order_of_the_cells_does_not_matter(self):
        self.assertEqual(with_high(EXAMPLE, ((2, 1), (1, 0))).rows, ("111", "^a#", "^^a"))

    def test_the_chart_that_was_passed_is_as_before(self):
        chart = Chart(("111", "aa#", "^aa"), ((0, 2),))
        with_high(chart, ((1, 0), (1, 1), (2, 1), (2, 2)))
        self.assertEqual((chart.rows, chart.sources), (("111", "aa#", "^aa"), ((0, 2),)))

    def test_each_land_sign(self):
        land = tuple(place for place in places_of(ALL_SIGNS) if sign_of(ALL_SIGNS, place) in LAND)
        chart = with_high(ALL_SIGNS, land)
        self.assertEqual(chart.rows, ("1234567", "89^^^^^", "^^^^^#1"))
        self.assertEqual(chart.sources, ALL_SIGNS.sources)


if __name__ == "__main__":
    unittest.main()
