"""Points 7 and 10: waves, travel times, and grids."""

import unittest

from helpers import ALL_SIGNS, EXAMPLE, is_plain, places_of, random_charts, sign_of, slow_times, water_of
from shorewarn.charts import Chart
from shorewarn.waves import wave_path, wave_time, wave_times

# The straight way over the middle has fewer cells, the way around takes less time.
AROUND = Chart(("191", "111"), ((0, 0),))

# Five lakes that land, high ground and rock part; some of them touch at corners.
PARTED = Chart(("11a2", "1#^#", "#3b4", "5#66"), ((0, 0), (2, 1)))


class WaveTimesTest(unittest.TestCase):
    def test_example(self):
        nothing = (None, None, None)
        self.assertEqual(wave_times(EXAMPLE, (0, 2)), ((4, 2, 0), nothing, nothing))
        self.assertEqual(wave_times(EXAMPLE, (0, 1)), ((2, 0, 2), nothing, nothing))
        self.assertEqual(wave_times(EXAMPLE, (0, 0)), ((0, 2, 4), nothing, nothing))

    def test_more_cells_and_less_time(self):
        self.assertEqual(wave_times(AROUND, (0, 0)), ((0, 10, 8), (2, 4, 6)))

    def test_a_step_needs_the_sum_of_both_cells(self):
        chart = Chart(("2593",), ((0, 0),))
        self.assertEqual(wave_times(chart, (0, 0)), ((0, 7, 21, 33),))
        self.assertEqual(wave_times(chart, (0, 2)), ((21, 14, 0, 12),))

    def test_one_column_and_one_cell(self):
        self.assertEqual(wave_times(Chart(("4", "1", "9"), ((0, 0),)), (0, 0)), ((0,), (5,), (15,)))
        self.assertEqual(wave_times(Chart(("9",), ((0, 0),)), (0, 0)), ((0,),))

    def test_no_way_leads_over_land_high_ground_or_rock(self):
        self.assertEqual(wave_times(PARTED, (0, 0)), ((0, 2, None, None), (2, None, None, None),
                                                      (None,) * 4, (None,) * 4))
        self.assertEqual(wave_times(PARTED, (2, 1)), ((None,) * 4, (None,) * 4,
                                                      (None, 0, None, None), (None,) * 4))
        self.assertEqual(wave_times(PARTED, (2, 3)), ((None,) * 4, (None,) * 4,
                                                      (None, None, None, 0), (None, None, 22, 10)))

    def test_largest_chart(self):
        chart = Chart(("9999999",) * 7, ((0, 0),))
        grid = tuple(tuple(18 * (row + column) for column in range(7)) for row in range(7))
        self.assertEqual(wave_times(chart, (0, 0)), grid)
        winding = Chart(("1111111", "######1", "1111111", "1######", "1111111", "######1", "1111111"), ((0, 0),))
        self.assertEqual(wave_times(winding, (0, 0))[6], (60, 58, 56, 54, 52, 50, 48))

    def test_like_the_slow_way(self):
        for chart in random_charts(60) + [ALL_SIGNS, PARTED, AROUND]:
            for start in water_of(chart):
                times = slow_times(chart, start)
                grid = wave_times(chart, start)
                self.assertTrue(is_plain(grid))
                self.assertEqual([len(row) for row in grid], [len(row) for row in chart.rows])
                for row, column in places_of(chart):
                    self.assertEqual(grid[row][column], times.get((row, column)))


class WaveTimeTest(unittest.TestCase):
    def test_example(self):
        self.assertEqual(wave_time(EXAMPLE, (0, 2), (0, 1)), 2)
        self.assertEqual(wave_time(EXAMPLE, (0, 2), (0, 0)), 4)

    def test_more_cells_and_less_time(self):
        self.assertEqual(wave_time(AROUND, (0, 0), (0, 2)), 8)

    def test_to_itself(self):
        for place in water_of(PARTED):
            self.assertEqual(wave_time(PARTED, place, place), 0)
            self.assertIs(type(wave_time(PARTED, place, place)), int)

    def test_no_way(self):
        self.assertIsNone(wave_time(PARTED, (0, 0), (0, 3)))
        self.assertIsNone(wave_time(PARTED, (0, 0), (2, 1)))
        self.assertIsNone(wave_time(PARTED, (2, 1), (3, 0)))
        for sign in "ai^#":
            with self.subTest(sign=sign):
                self.assertIsNone(wave_time(Chart(("1" + sign + "1",), ((0, 0),)), (0, 0), (0, 2)))

    def test_like_the_slow_way(self):
        for chart in random_charts(20, (1, 5)):
            for one in water_of(chart):
                times = slow_times(chart, one)
                for two in water_of(chart):
                    self.assertEqual(wave_time(chart, one, two), times.get(two))


class WavePathTest(unittest.TestCase):
    def is_right(self, chart, one, two):
        path = wave_path(chart, one, two)
        time = slow_times(chart, one).get(two)
        if time is None:
            self.assertIsNone(path)
            return
        self.assertTrue(is_plain(path))
        self.assertEqual((path[0], path[-1]), (one, two))
        total = 0
        for place in path:
            self.assertIn(place, water_of(chart))
        for before, after in zip(path, path[1:]):
            self.assertEqual(abs(before[0] - after[0]) + abs(before[1] - after[1]), 1)
            total += int(sign_of(chart, before)) + int(sign_of(chart, after))
        self.assertEqual(total, time)

    def test_example(self):
        self.assertEqual(wave_path(EXAMPLE, (0, 2), (0, 0)), ((0, 2), (0, 1), (0, 0)))
        self.assertEqual(wave_path(EXAMPLE, (0, 0), (0, 2)), ((0, 0), (0, 1), (0, 2)))

    def test_more_cells_and_less_time(self):
        self.assertEqual(wave_path(AROUND, (0, 0), (0, 2)), ((0, 0), (1, 0), (1, 1), (1, 2), (0, 2)))

    def test_to_itself_is_the_cell_alone(self):
        for place in water_of(PARTED):
            self.assertEqual(wave_path(PARTED, place, place), (place,))
        self.assertEqual(wave_path(Chart(("9",), ((0, 0),)), (0, 0), (0, 0)), ((0, 0),))

    def test_no_way(self):
        self.assertIsNone(wave_path(PARTED, (0, 0), (0, 3)))
        self.assertIsNone(wave_path(PARTED, (2, 1), (3, 0)))
        self.assertIsNone(wave_path(Chart(("1a1",), ((0, 0),)), (0, 0), (0, 2)))

    def test_all_pairs(self):
        for chart in random_charts(25, (1, 5)) + [ALL_SIGNS, PARTED, AROUND]:
            for one in water_of(chart):
                for two in water_of(chart):
                    self.is_right(chart, one, two)

    def test_on_the_largest_charts(self):
        for chart in random_charts(6, (7, 7), "11239#"):
            for two in water_of(chart):
                self.is_right(chart, chart.sources[0], two)


if __name__ == "__main__":
    unittest.main()
