"""Point 32: texts that are none of a chart or of readings, and which line is told."""

import random
import re
import unittest

from helpers import ALL_SIGNS, EXAMPLE, LAKES, LAND, SIGNS, outside_of, places_of, random_charts, sign_of, water_of
from shorewarn.charts import Chart, check_readings
from shorewarn.errors import BadChart, BadReadings, FaultyLine, ShoreError
from shorewarn.texts import chart_of, chart_text, readings_of, readings_text

BAD_NUMBERS = ("00", "01", "002", "+0", "-0", "-1", "+1", "", "0.0", "0x0", "1e0", "1_0", "a", "0,0", "0a", "a0",
               "9" * 5000, "0" * 5000, "None")


def line_told(call):
    try:
        call()
    except FaultyLine as error:
        return error.line
    return None


class ChartTest(unittest.TestCase):
    def faulty(self, line, text):
        with self.subTest(text=text[:200]):
            self.assertEqual(line_told(lambda: chart_of(text)), line)

    def test_the_empty_string(self):
        self.faulty(1, "")

    def test_a_single_line_feed(self):
        self.faulty(1, "\n")
        self.faulty(1, "\n\n")

    def test_the_last_line_feed_is_left_out(self):
        self.faulty(1, "1")
        self.faulty(2, "1\nsource 0 0")
        self.faulty(4, "111\naa#\n^aa\nsource 0 2")
        self.faulty(5, "111\naa#\n^aa\nsource 0 2\ns")
        self.faulty(5, "111\naa#\n^aa\nsource 0 2\n ")

    def test_the_last_line_feed_counts_before_all_else(self):
        self.faulty(3, "\n\nx")
        self.faulty(4, "111\nxx\n\nsource 0 2")
        self.faulty(9, "1\n" * 8 + "source 0 0")
        self.faulty(2, "source 0 0\n1")

    def test_a_text_that_ends_ahead_of_its_first_source(self):
        self.faulty(2, "1\n")
        self.faulty(4, "111\naa#\n^aa\n")
        self.faulty(8, "1\n" * 7)
        self.faulty(2, "a\n")
        self.faulty(7, "a\n" * 6)

    def test_seven_rows_without_water(self):
        # Each row is right by itself, but no chart has these seven rows.
        self.faulty(7, "a\n" * 7)
        self.faulty(7, "a^#\n" * 7)
        self.faulty(7, "a\n" * 7 + "source 0 0\n")
        self.faulty(7, "a\n" * 8)
        self.faulty(8, "a\n" * 6 + "1\n")
        self.faulty(8, "1\n" + "a\n" * 6)
        self.faulty(8, "a\n" * 7 + "b")

    def test_a_source_behind_rows_without_water(self):
        self.faulty(2, "a\nsource 0 0\n")
        self.faulty(4, "a\n^\n#\nsource 0 0\n")

    def test_no_row(self):
        self.faulty(1, "source 0 0\n")
        self.faulty(1, "source 0 0\n1\n")

    def test_a_row_left_out(self):
        # Without it the source is no cell, or no water.
        self.faulty(3, "111\naa#\nsource 2 0\n")
        self.faulty(3, "aa#\n^1a\nsource 2 1\n")
        self.faulty(3, "aa#\n^1a\nsource 0 1\n")

    def test_a_line_put_in_twice(self):
        self.faulty(5, "111\naa#\n^aa\nsource 0 2\nsource 0 2\n")
        self.faulty(8, "111\n" * 8 + "source 0 2\n")
        self.faulty(5, "111\naa#\naa#\n^aa\nsource 4 0\n")

    def test_a_line_out_of_its_place(self):
        # Rows and one source are a whole text, so what is wrong is the row behind them.
        self.faulty(3, "111\nsource 0 2\naa#\n^aa\n")
        self.faulty(3, "111\nsource 0 0\naa#\nsource 0 2\n")
        self.faulty(2, "aa#\nsource 1 2\n111\n^aa\n")
        self.faulty(1, "source 0 2\n111\naa#\n^aa\n")

    def test_lines_behind_the_last_one(self):
        for more in ("\n", " \n", "x\n", "111\n", "clock 6\n", "source\n", "\n\n", "x\ny\n"):
            self.faulty(5, "111\naa#\n^aa\nsource 0 2\n" + more)

    def test_blanks(self):
        for line in ("source  0 2", "source 0  2", " source 0 2", "source 0 2 ", "source 0 2  ", "source0 2",
                     "source 02", "source 0", "source", "source ", "source 0 ", "source 0 2 1", "sources 0 2",
                     "Source 0 2", "gauge 0 2", ""):
            self.faulty(4, "111\naa#\n^aa\n" + line + "\n")
        for row in (" aa#", "aa# ", "a a#", "aa", "a#a ", " "):
            self.faulty(2, f"111\n{row}\n^aa\nsource 0 2\n")
        for row in (" 111", "111 ", "1 1", " "):
            self.faulty(1, f"{row}\naa#\n^aa\nsource 0 2\n")

    def test_numbers(self):
        for number in BAD_NUMBERS:
            self.faulty(2, f"1\nsource {number} 0\n")
            self.faulty(2, f"1\nsource 0 {number}\n")
        for number in ("1", "2", "7", "10", "100000", "99999999"):
            self.faulty(2, f"1\nsource {number} 0\n")
            self.faulty(2, f"1\nsource 0 {number}\n")

    def test_rows_of_another_length(self):
        self.faulty(2, "111\n11\n111\nsource 0 0\n")
        self.faulty(2, "111\n1111\n111\nsource 0 0\n")
        self.faulty(3, "111\n111\n1\nsource 0 0\n")
        self.faulty(2, "1\n11\nsource 0 0\n")
        self.faulty(2, "111\n\nsource 0 0\n")

    def test_eight_rows_and_eight_columns(self):
        for number in (8, 9, 20):
            self.faulty(8, "1\n" * number + "source 0 0\n")
            self.faulty(8, "1111111\n" * number)
            self.faulty(1, "1" * number + "\nsource 0 0\n")
            self.faulty(1, ("1" * number + "\n") * number)
        self.faulty(2, "1111111\n11111111\nsource 0 0\n")

    def test_signs_outside_of_point_4(self):
        for code in range(32, 127):
            sign = chr(code)
            right = sign in SIGNS
            self.faulty(None if right else 1, f"1{sign}\nsource 0 0\n")
            self.faulty(None if right else 1, f"{sign}1\nsource 0 1\n")
            self.faulty(None if right else 2, f"11\n{sign}1\nsource 0 0\n")

    def test_sources_that_are_no_water(self):
        for place in places_of(ALL_SIGNS):
            row, column = place
            right = sign_of(ALL_SIGNS, place) not in LAND + "^#"
            self.faulty(None if right else 4, "\n".join(ALL_SIGNS.rows) + f"\nsource {row} {column}\n")
        for row, column in outside_of(ALL_SIGNS):
            self.faulty(4, "\n".join(ALL_SIGNS.rows) + f"\nsource {row} {column}\n")

    def test_sources_out_of_order_and_twice(self):
        rows = "111\n111\n"
        self.faulty(4, rows + "source 0 1\nsource 0 0\n")
        self.faulty(4, rows + "source 1 0\nsource 0 2\n")
        self.faulty(5, rows + "source 0 0\nsource 1 0\nsource 0 1\n")
        self.faulty(4, rows + "source 0 0\nsource 0 0\n")
        self.faulty(5, rows + "source 0 0\nsource 0 1\nsource 0 1\nsource 0 2\n")
        self.faulty(5, rows + "source 0 0\nsource 0 1\nsource 0 0\n")

    def test_seven_sources(self):
        lines = [f"source 0 {column}\n" for column in range(7)]
        self.faulty(None, "1111111\n" + "".join(lines[:6]))
        self.faulty(8, "1111111\n" + "".join(lines))
        self.faulty(8, "1111111\n" + "".join(lines) + "x\n")

    def test_the_first_faulty_line_counts(self):
        self.faulty(2, "111\nxx\n^a\nsource 0 2\n")
        self.faulty(1, "x\ny\nz\n")
        self.faulty(5, "111\naa#\n^aa\nsource 0 0\nsource 0 0\nsource\n")

    def test_is_an_error_of_the_program(self):
        for error in (ShoreError, ValueError):
            with self.assertRaises(error):
                chart_of("")


class ReadingsTest(unittest.TestCase):
    def faulty(self, line, text, chart=EXAMPLE):
        with self.subTest(text=text[:200]):
            self.assertEqual(line_told(lambda: readings_of(chart, text)), line)

    def test_the_empty_string(self):
        self.faulty(1, "")

    def test_the_last_line_feed_is_left_out(self):
        self.faulty(1, "clock 6")
        self.faulty(2, "clock 6\ngauge 0 1 at 6")
        self.faulty(3, "clock 6\ngauge 0 1 at 6\n ")
        self.faulty(3, "x\n\ngauge 0 1 at 6")

    def test_the_clock_left_out(self):
        self.faulty(1, "gauge 0 1 at 6\n")
        self.faulty(1, "\ngauge 0 1 at 6\n")
        self.faulty(1, "\n")

    def test_a_gauge_left_out_makes_another_text(self):
        self.assertEqual(readings_of(EXAMPLE, "clock 6\n"), ((), 6))

    def test_lines_twice_and_out_of_place(self):
        self.faulty(2, "clock 6\nclock 6\n")
        self.faulty(2, "clock 6\nclock 7\ngauge 0 1 at 6\n")
        self.faulty(1, "gauge 0 1 at 6\nclock 6\n")
        self.faulty(3, "clock 6\ngauge 0 1 at 6\nclock 6\n")
        self.faulty(3, "clock 6\ngauge 0 1 at 6\ngauge 0 1 at 6\n")
        self.faulty(3, "clock 6\ngauge 0 1 at 6\ngauge 0 1 silent\n")

    def test_lines_behind_the_last_one(self):
        for more in ("\n", " \n", "x\n", "111\n", "source 0 2\n", "gauge\n", "\n\n"):
            self.faulty(3, "clock 6\ngauge 0 1 at 6\n" + more)
            self.faulty(2, "clock 6\n" + more)

    def test_blanks_and_words(self):
        for line in ("clock  6", " clock 6", "clock 6 ", "clock", "clock ", "clock6", "clock 6 6", "Clock 6", "6", ""):
            self.faulty(1, line + "\n")
            self.faulty(1, line + "\ngauge 0 1 at 6\n")
        for line in ("gauge 0 1", "gauge 0 1 ", "gauge 0 1 at", "gauge 0 1 at ", "gauge 0 1  at 6", "gauge 0 1 at  6",
                     " gauge 0 1 at 6", "gauge 0 1 at 6 ", "gauge  0 1 at 6", "gauge 0  1 at 6", "gauge 0 1 silent ",
                     "gauge 0 1  silent", " gauge 0 1 silent", "gauge 0 1 silent 6", "gauge 0 1 at silent",
                     "gauge 0 1 6", "gauge 0 1 in 6", "gauge 0 at 6", "gauge at 6", "gauge silent", "gauge 0 silent",
                     "gauge 0 1 Silent", "gauge 0 1 silen", "gauge 0 1 at 6 6", "gauge 0 1 2 at 6", "0 1 at 6",
                     "gauge 0 1 at None", "gauge 0 1 None", "source 0 1", "clock 0 1 silent"):
            self.faulty(2, f"clock 6\n{line}\n")
            self.faulty(3, f"clock 6\ngauge 0 0 silent\n{line}\ngauge 0 2 silent\n")

    def test_numbers(self):
        for number in BAD_NUMBERS:
            self.faulty(1, f"clock {number}\n")
            self.faulty(2, f"clock 6\ngauge {number} 0 silent\n")
            self.faulty(2, f"clock 6\ngauge 0 {number} silent\n")
            self.faulty(2, f"clock 6\ngauge {number} 0 at 6\n")
            self.faulty(2, f"clock 6\ngauge 0 {number} at 6\n")
            self.faulty(2, f"clock 6\ngauge 0 0 at {number}\n")

    def test_the_greatest_clock(self):
        self.faulty(None, "clock 90000\n")
        for clock in ("90001", "99999", "100000", "900000", "1" * 5000):
            self.faulty(1, f"clock {clock}\n")
            self.faulty(2, f"clock 90000\ngauge 0 1 at {clock}\n")
        self.faulty(None, "clock 90000\ngauge 0 1 at 90000\n")
        self.faulty(2, "clock 90000\ngauge 0 1 at 90001\n")

    def test_a_time_above_the_clock(self):
        for clock in (0, 1, 6, 9, 10, 89999):
            self.faulty(None, f"clock {clock}\ngauge 0 1 at {clock}\n")
            self.faulty(2, f"clock {clock}\ngauge 0 1 at {clock + 1}\n")
            self.faulty(3, f"clock {clock}\ngauge 0 0 silent\ngauge 0 1 at {clock + 1}\ngauge 0 2 silent\n")

    def test_gauges_that_are_no_water(self):
        for place in places_of(ALL_SIGNS) + outside_of(ALL_SIGNS) + [(0, 10), (10, 0), (100000, 0)]:
            row, column = place
            right = place in water_of(ALL_SIGNS)
            self.faulty(None if right else 2, f"clock 6\ngauge {row} {column} silent\n", ALL_SIGNS)
            self.faulty(None if right else 2, f"clock 6\ngauge {row} {column} at 6\n", ALL_SIGNS)

    def test_gauges_out_of_order_and_twice(self):
        self.faulty(3, "clock 6\ngauge 0 1 at 6\ngauge 0 0 at 6\n")
        self.faulty(3, "clock 6\ngauge 2 0 silent\ngauge 0 4 silent\n", LAKES)
        self.faulty(4, "clock 6\ngauge 0 0 at 6\ngauge 2 0 silent\ngauge 0 1 silent\n", LAKES)
        self.faulty(4, "clock 6\ngauge 0 0 at 6\ngauge 0 1 at 6\ngauge 0 1 at 6\ngauge 0 2 at 6\n")
        self.faulty(4, "clock 6\ngauge 0 0 at 6\ngauge 0 1 at 6\ngauge 0 0 at 6\n")

    def test_the_chart_counts(self):
        text = "clock 6\ngauge 2 4 at 6\n"
        self.faulty(None, text, LAKES)
        self.faulty(2, text, EXAMPLE)

    def test_the_first_faulty_line_counts(self):
        self.faulty(1, "clock 06\ngauge 0 9 at 6\n")
        self.faulty(2, "clock 6\ngauge 0 9 at 6\ngauge 0 1\n")


def whole_chart(lines):
    """Tell whether these are the lines of a chart, by building it and writing it again."""
    sources = [re.fullmatch(r"source ([0-9]) ([0-9])", line) for line in lines]
    rows = tuple(line for line, source in zip(lines, sources) if not source)
    places = tuple((int(source[1]), int(source[2])) for source in sources if source)
    try:
        Chart(rows, places)
    except BadChart:
        return False
    return list(lines) == [*rows] + [f"source {row} {column}" for row, column in places]


def whole_readings(chart, lines):
    """The same for the lines of readings."""
    told = [re.fullmatch(r"gauge ([0-9]) ([0-9]) (silent|at ([0-9]{1,6}))", line) for line in lines[1:]]
    clock = re.fullmatch(r"clock ([0-9]{1,6})", lines[0]) if lines else None
    if not clock or not all(told):
        return False
    readings = tuple(((int(row[1]), int(row[2])), None if row[4] is None else int(row[4])) for row in told)
    try:
        check_readings(chart, readings, int(clock[1]))
    except BadReadings:
        return False
    again = [f"clock {int(clock[1])}"]
    for (row, column), time in readings:
        again.append(f"gauge {row} {column} " + ("silent" if time is None else f"at {time}"))
    return again == list(lines)


def chart_begins(lines):
    """Tell whether some chart's text begins with these lines: as it is, with a source, or with water and a source."""
    if whole_chart(lines):
        return True
    width = len(lines[0]) if lines else 1
    sources = [f"source {row} {column}" for row in range(8) for column in range(7)]
    return any(whole_chart([*lines, *row, source]) for row in ((), ("1" * width,)) for source in sources)


def slow_line(text, whole, begins):
    """The line that point 32 tells, word by word, or None for a whole text."""
    lines = text.split("\n")
    if text and not text.endswith("\n"):
        return len(lines)
    lines = lines[:-1]
    if whole(lines):
        return None
    for number in range(1, len(lines) + 1):
        if not begins(lines[:number]):
            return number
    return len(lines) + 1


def spoiled(text, chance):
    """A text with a line left out, put in, moved or changed; sometimes more than once."""
    lines = text.split("\n")
    for _ in range(chance.choice((0, 1, 1, 1, 2, 3))):
        at = chance.randrange(len(lines))
        kind = chance.randrange(8)
        if kind == 0:
            del lines[at]
        elif kind == 1:
            lines.insert(at, chance.choice(lines))
        elif kind == 2:
            lines.insert(chance.randrange(len(lines)), lines.pop(at))
        elif kind == 3:
            del lines[at + 1:]
        elif lines[at]:
            place = chance.randrange(len(lines[at]))
            put = chance.choice(("", " ", "0", "1", "6", "7", "9", "a", "#", "x", "-", "\n"))
            lines[at] = lines[at][:place] + put + lines[at][place + kind % 2:]
        lines = lines or [""]
    return "\n".join(lines)


class SlowLineTest(unittest.TestCase):
    def test_charts(self):
        chance = random.Random(17)
        lines = []
        for chart in random_charts(150, (1, 7), "1aab^##") + random_charts(50, (6, 7), "aaaaaaaaaaaa1"):
            for _ in range(12):
                text = spoiled(chart_text(chart), chance)
                line = slow_line(text, whole_chart, chart_begins)
                self.assertEqual(line_told(lambda: chart_of(text)), line, text)
                lines.append(line)
        for line in (None, 1, 2, 3, 5, 7, 8, 9):
            self.assertGreater(lines.count(line), 20)

    def test_readings(self):
        chance = random.Random(18)
        lines = []
        for chart in random_charts(150, (1, 4), "111aab^#"):
            clock = chance.choice((0, 6, 9, 90000))
            water = water_of(chart)
            gauges = sorted(chance.sample(water, min(len(water), chance.randint(0, 6))))
            text = readings_text(tuple((gauge, chance.choice((None, 0, clock))) for gauge in gauges), clock)
            for _ in range(12):
                other = spoiled(text, chance)
                line = slow_line(other, lambda rows: whole_readings(chart, rows),
                                 lambda rows: whole_readings(chart, rows))
                self.assertEqual(line_told(lambda: readings_of(chart, other)), line, other)
                lines.append(line)
        for line in (None, 1, 2, 3, 5):
            self.assertGreater(lines.count(line), 20)


if __name__ == "__main__":
    unittest.main()
