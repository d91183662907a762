"""Points 14, 15 and 17: explained readings, refutations, and which refutation is told."""

import itertools
import unittest

from helpers import (EXAMPLE, LAKES, LINE, agreeing, is_plain, is_right_refutation, random_cases, slow_agrees,
                     slow_arrivals, water_of)
from shorewarn.charts import Chart, check_event
from shorewarn.errors import BadReadings, NotExplained, ShoreError
from shorewarn.escapes import escape, last_minute, unsafe_from
from shorewarn.forecasts import earliest, event_at, explained, is_refutation, latest

FAR = ("far",)
START = ("start",)


def reading(row, column):
    return ("reading", (row, column))


class ExplainedTest(unittest.TestCase):
    def test_examples_of_the_interface(self):
        self.assertEqual(explained(EXAMPLE, (((0, 1), 6),), 6), ("event", (((0, 2), 4),)))
        self.assertEqual(explained(EXAMPLE, (((0, 1), 1),), 6), ("refuted", (0, 1), (("start",),)))

    def test_the_earliest_event_has_all_sources(self):
        self.assertEqual(explained(LINE, (((0, 1), 3),), 9), ("event", (((0, 0), 1), ((0, 4), 0))))
        self.assertEqual(explained(LAKES, (((2, 1), 9),), 9), ("event", (((0, 0), 0), ((0, 4), 0), ((2, 0), 7))))

    def test_no_reading_with_a_time_is_always_explained(self):
        self.assertEqual(explained(LINE, (), 90000), ("event", (((0, 0), 0), ((0, 4), 0))))
        self.assertEqual(explained(LINE, (((0, 1), None),), 8), ("event", (((0, 0), 7), ((0, 4), 3))))
        self.assertEqual(explained(LINE, (((0, 0), None), ((0, 4), None)), 90000),
                         ("event", (((0, 0), 90001), ((0, 4), 90001))))

    def test_each_reading_by_another_source(self):
        readings = (((0, 1), 3), ((0, 3), 8))
        self.assertEqual(explained(LAKES, readings, 8), ("event", (((0, 0), 1), ((0, 4), 6), ((2, 0), 0))))

    def test_far(self):
        self.assertEqual(explained(LAKES, (((2, 4), 5),), 5), ("refuted", (2, 4), (FAR, FAR, FAR)))
        self.assertEqual(explained(LAKES, (((2, 1), 1),), 5), ("refuted", (2, 1), (FAR, FAR, START)))

    def test_start_at_zero_and_below(self):
        self.assertEqual(explained(EXAMPLE, (((0, 0), 4),), 9), ("event", (((0, 2), 0),)))
        self.assertEqual(explained(EXAMPLE, (((0, 0), 3),), 9), ("refuted", (0, 0), (START,)))
        self.assertEqual(explained(LINE, (((0, 2), 3),), 9), ("refuted", (0, 2), (START, START)))

    def test_start_comes_before_reading(self):
        # From a start at -1 the wave would also come to (0, 1) too early.
        readings = (((0, 0), 3), ((0, 1), 2))
        self.assertEqual(explained(EXAMPLE, readings, 9), ("refuted", (0, 0), (START,)))
        self.assertTrue(is_refutation(EXAMPLE, readings, 9, (0, 0), (reading(0, 1),)))

    def test_another_gauge_with_a_time(self):
        # The wave of (0, 0) that comes to (0, 1) at 3 comes to (0, 3) at 7.
        for time in (6, 7):
            self.assertEqual(explained(LINE, (((0, 1), 3), ((0, 3), time)), 9)[0], "event")
        told = ("refuted", (0, 1), (reading(0, 3), START))
        for time in (8, 9):
            self.assertEqual(explained(LINE, (((0, 1), 3), ((0, 3), time)), 9), told)

    def test_another_gauge_with_none(self):
        readings = (((0, 1), 3), ((0, 3), None))
        self.assertEqual(explained(LINE, readings, 6), ("event", (((0, 0), 1), ((0, 4), 5))))
        for clock in (7, 8):
            self.assertEqual(explained(LINE, readings, clock), ("refuted", (0, 1), (reading(0, 3), START)))

    def test_of_several_readings_the_first_one_that_is_right(self):
        chart = Chart(("1111111",), ((0, 0),))
        readings = (((0, 1), 3), ((0, 2), 5), ((0, 4), None), ((0, 5), 12), ((0, 6), None))
        self.assertEqual(explained(chart, readings, 12), ("refuted", (0, 1), (reading(0, 4),)))
        readings = (((0, 1), 3), ((0, 2), 5), ((0, 4), 9), ((0, 5), 12), ((0, 6), None))
        self.assertEqual(explained(chart, readings, 13), ("refuted", (0, 1), (reading(0, 5),)))
        readings = (((0, 0), None), ((0, 1), 3))
        self.assertEqual(explained(chart, readings, 3), ("refuted", (0, 1), (reading(0, 0),)))

    def test_the_first_gauge_in_order(self):
        self.assertEqual(explained(EXAMPLE, (((0, 0), 3), ((0, 1), 1)), 9), ("refuted", (0, 0), (START,)))
        self.assertEqual(explained(EXAMPLE, (((0, 0), None), ((0, 1), 1)), 2), ("refuted", (0, 1), (START,)))
        # The first gauge has a tight source, but later ones have none.
        readings = (((0, 1), 3), ((0, 2), 5), ((2, 1), 1), ((2, 4), 5))
        self.assertEqual(explained(LAKES, readings, 5), ("refuted", (0, 2), (START, START, FAR)))
        readings = (((0, 1), 3), ((0, 2), 7), ((2, 1), 1), ((2, 4), 5))
        self.assertEqual(explained(LAKES, readings, 7), ("refuted", (2, 1), (FAR, FAR, START)))

    def test_all_three_reasons_at_once(self):
        readings = (((0, 0), 5), ((0, 1), 6))
        told = ("refuted", (0, 1), (reading(0, 0), START, FAR))
        self.assertEqual(explained(LAKES, readings, 9), told)

    def test_explained_exactly_if_an_event_agrees(self):
        kinds = set()
        for chart, readings, clock in random_cases(250):
            events = agreeing(chart, readings, clock, clock + 1)
            told = explained(chart, readings, clock)
            kinds.add(told[0])
            self.assertTrue(is_plain(told))
            self.assertEqual(told[0], "event" if events else "refuted")
            if events:
                least = tuple((source, min(dict(event).get(source, clock + 2) for event, _ in events))
                              for source in chart.sources)
                self.assertEqual(told, ("event", least))
                self.assertIsNone(check_event(chart, told[1]))
                self.assertTrue(slow_agrees(readings, clock, slow_arrivals(chart, told[1])))
        self.assertEqual(kinds, {"event", "refuted"})

    def first_refutation(self, chart, readings, clock):
        """The first gauge that has a refutation, with the first right reason for each source."""
        several = [FAR, START] + [("reading", gauge) for gauge, _ in readings]
        for gauge, time in readings:
            rows = list(itertools.product(several, repeat=len(chart.sources)))
            for reasons in rows if time is not None else ():
                if is_right_refutation(chart, readings, clock, gauge, reasons):
                    return ("refuted", gauge, reasons)
        return None

    def test_the_refutation_that_is_told_is_the_first_one(self):
        refuted = 0
        for chart, readings, clock in random_cases(500, most_sources=3, most_minutes=20):
            told = explained(chart, readings, clock)
            first = self.first_refutation(chart, readings, clock)
            self.assertEqual(told[0] == "refuted", first is not None)
            if first is not None:
                refuted += 1
                self.assertEqual(told, first)
                self.assertIs(is_refutation(chart, readings, clock, told[1], told[2]), True)
        self.assertGreater(refuted, 50)


class IsRefutationTest(unittest.TestCase):
    def right(self, chart, readings, clock, gauge, reasons):
        self.assertIs(is_refutation(chart, readings, clock, gauge, reasons), True)

    def wrong(self, chart, readings, clock, gauge, reasons):
        with self.subTest(readings=readings, clock=clock, gauge=gauge, reasons=reasons):
            self.assertIs(is_refutation(chart, readings, clock, gauge, reasons), False)

    def test_far(self):
        self.right(LAKES, (((2, 4), 5),), 5, (2, 4), (FAR, FAR, FAR))
        self.wrong(LAKES, (((2, 1), 1),), 5, (2, 1), (FAR, FAR, FAR))
        self.wrong(LAKES, (((0, 1), 1),), 5, (0, 1), (FAR, START, FAR))
        self.wrong(LAKES, (((2, 4), 5),), 5, (2, 4), (FAR, START, FAR))

    def test_start_at_zero_and_below(self):
        self.right(EXAMPLE, (((0, 0), 3),), 9, (0, 0), (START,))
        self.wrong(EXAMPLE, (((0, 0), 4),), 9, (0, 0), (START,))
        self.wrong(EXAMPLE, (((0, 0), 5),), 9, (0, 0), (START,))

    def test_a_source_that_does_not_reach_the_gauge_has_no_start_for_it(self):
        self.right(LAKES, (((2, 1), 1),), 5, (2, 1), (FAR, FAR, START))
        self.wrong(LAKES, (((2, 1), 1),), 5, (2, 1), (START, FAR, START))
        self.wrong(LAKES, (((0, 0), 3), ((2, 1), 1)), 5, (2, 1), (reading(0, 0), FAR, START))

    def test_another_gauge_with_a_time(self):
        for time in range(4, 10):
            told = is_refutation(LINE, (((0, 1), 3), ((0, 3), time)), 9, (0, 1), (reading(0, 3), START))
            self.assertIs(told, time > 7)

    def test_another_gauge_with_none(self):
        for clock in range(3, 12):
            told = is_refutation(LINE, (((0, 1), 3), ((0, 3), None)), clock, (0, 1), (reading(0, 3), START))
            self.assertIs(told, clock >= 7)

    def test_another_gauge_out_of_reach(self):
        self.wrong(LAKES, (((0, 1), 1), ((2, 1), 9)), 9, (0, 1), (reading(2, 1), START, FAR))
        self.wrong(LAKES, (((0, 1), 1), ((2, 1), None)), 9, (0, 1), (reading(2, 1), START, FAR))

    def test_the_gauge_itself_is_no_reason(self):
        self.wrong(EXAMPLE, (((0, 0), 3),), 9, (0, 0), (reading(0, 0),))
        self.wrong(EXAMPLE, (((0, 0), 9),), 9, (0, 0), (reading(0, 0),))

    def test_not_only_the_first_gauge_and_the_first_reason(self):
        readings = (((0, 0), 5), ((0, 1), 6), ((0, 2), 5))
        self.right(LAKES, readings, 9, (0, 2), (reading(0, 0), START, FAR))
        self.right(LAKES, readings, 9, (0, 2), (START, START, FAR))
        self.right(LAKES, readings, 9, (0, 2), (reading(0, 1), START, FAR))
        self.right(LAKES, readings, 9, (0, 1), (reading(0, 0), START, FAR))
        # From a start at 4 the wave comes to (0, 2) at 10.
        self.wrong(LAKES, readings, 9, (0, 1), (reading(0, 2), START, FAR))

    def test_explained_readings_have_none(self):
        for reasons in itertools.product((FAR, START, reading(0, 1)), repeat=1):
            self.wrong(EXAMPLE, (((0, 1), 6),), 6, (0, 1), reasons)

    def test_the_number_of_reasons(self):
        readings = (((2, 4), 5),)
        for number in (0, 1, 2, 4, 7):
            self.wrong(LAKES, readings, 5, (2, 4), (FAR,) * number)

    def test_the_order_of_reasons(self):
        readings = (((0, 1), 3), ((0, 3), 8))
        self.right(LINE, readings, 9, (0, 1), (reading(0, 3), START))
        self.wrong(LINE, readings, 9, (0, 1), (START, reading(0, 3)))

    def test_a_gauge_without_a_reading_or_with_none(self):
        readings = (((0, 1), 1), ((0, 2), None))
        self.right(EXAMPLE, readings, 9, (0, 1), (START,))
        for reason in (FAR, START, reading(0, 1), reading(0, 2)):
            self.wrong(EXAMPLE, readings, 9, (0, 0), (reason,))
            self.wrong(EXAMPLE, readings, 9, (0, 2), (reason,))
        self.wrong(EXAMPLE, (), 9, (0, 1), (START,))
        self.wrong(LAKES, (((0, 1), 1),), 9, (2, 4), (FAR, FAR, FAR))

    def test_a_reason_that_names_a_cell_without_a_reading(self):
        readings = (((0, 1), 1), ((0, 2), None))
        self.right(EXAMPLE, readings, 9, (0, 1), (reading(0, 2),))
        for place in ((0, 0), (1, 0), (1, 2), (2, 0), (7, 7), (-1, 0)):
            self.wrong(EXAMPLE, readings, 9, (0, 1), (("reading", place),))

    def test_each_choice_of_reasons_on_many_charts(self):
        found = 0
        for chart, readings, clock in random_cases(250, most_minutes=20):
            several = [FAR, START] + [("reading", place) for place in water_of(chart)]
            for gauge in water_of(chart):
                for reasons in itertools.product(several, repeat=len(chart.sources)):
                    right = is_right_refutation(chart, readings, clock, gauge, reasons)
                    found += right
                    self.assertIs(is_refutation(chart, readings, clock, gauge, reasons), right)
        self.assertGreater(found, 50)


class NotExplainedTest(unittest.TestCase):
    def refused(self, call, refutation):
        with self.assertRaises(NotExplained) as caught:
            call()
        self.assertEqual(caught.exception.refutation, refutation)
        self.assertIs(type(caught.exception.refutation), tuple)
        self.assertIsInstance(caught.exception, ShoreError)
        self.assertNotIsInstance(caught.exception, BadReadings)

    def all_refuse(self, chart, readings, clock, refutation, ground):
        self.refused(lambda: earliest(chart, readings, clock), refutation)
        self.refused(lambda: latest(chart, readings, clock), refutation)
        self.refused(lambda: unsafe_from(chart, readings, clock), refutation)
        for cell in water_of(chart):
            for time in (None, 0, 5, 100000):
                self.refused(lambda: event_at(chart, readings, clock, cell, time), refutation)
        for start in ground:
            for minute in (0, clock, 100000):
                self.refused(lambda: escape(chart, readings, clock, start, minute), refutation)
            self.refused(lambda: last_minute(chart, readings, clock, start), refutation)

    def test_the_refutation_is_the_one_that_is_told(self):
        ground = ((1, 0), (1, 1), (2, 0), (2, 2))
        self.all_refuse(EXAMPLE, (((0, 1), 1),), 6, ((0, 1), (START,)), ground)
        ground = ((1, 0), (1, 3))
        self.all_refuse(LAKES, (((2, 4), 5),), 5, ((2, 4), (FAR, FAR, FAR)), ground)
        readings = (((0, 0), 5), ((0, 1), 6))
        self.all_refuse(LAKES, readings, 9, ((0, 1), (reading(0, 0), START, FAR)), ground)

    def test_on_many_charts(self):
        for chart, readings, clock in random_cases(100, most_sources=6, most_minutes=30):
            told = explained(chart, readings, clock)
            if told[0] == "refuted":
                self.all_refuse(chart, readings, clock, (told[1], told[2]), ())


if __name__ == "__main__":
    unittest.main()
