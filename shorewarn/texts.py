"""The texts of charts and of readings, and reading them."""

from shorewarn.charts import LAST_CLOCK, MOST_SIDE, WATER, Chart, are_readings, are_rows, are_sources
from shorewarn.errors import FaultyLine


def chart_text(chart):
    """Return the text of a chart."""
    return text_of(list(chart.rows) + [f"source {row} {column}" for row, column in chart.sources])


def readings_text(readings, clock):
    """Return the text of readings with their clock."""
    return text_of([f"clock {clock}"] + [gauge_line(gauge, time) for gauge, time in readings])


def gauge_line(gauge, time):
    """Return the line of a gauge with its time, or None."""
    row, column = gauge
    if time is None:
        return f"gauge {row} {column} silent"
    return f"gauge {row} {column} at {time}"


def text_of(lines):
    """Return the text that has these lines."""
    return "".join([line + "\n" for line in lines])


def lines_of(text):
    """Return the lines of a text, a list; refuse a text whose last line is not ended."""
    lines = text.split("\n")
    # Behind the last line feed there is nothing.
    if lines[-1] != "":
        raise FaultyLine(len(lines))
    return lines[:-1]


def chart_of(text):
    """Return the chart of a text."""
    lines = lines_of(text)
    rows = leading_rows(lines)
    sources = []
    for line in lines[len(rows):]:
        source = source_of(line)
        if source is None or not are_sources(rows, sources + [source]):
            raise FaultyLine(len(rows) + len(sources) + 1)
        sources.append(source)
    if not sources:
        raise FaultyLine(len(lines) + 1)
    return Chart(tuple(rows), tuple(sources))


def leading_rows(lines):
    """Return the lines up to the first one that cannot be a row of a chart that begins with them, a list."""
    rows = []
    for line in lines:
        if not begin_a_chart(rows + [line]):
            return rows
        rows.append(line)
    return rows


def begin_a_chart(rows):
    """Tell whether some chart begins with these rows."""
    # A chart has a source, and so water, at the latest in its last possible row.
    return are_rows(rows) and (len(rows) < MOST_SIDE or any([sign in WATER for sign in "".join(rows)]))


def source_of(line):
    """Return the place in the line of a source, or None if it is no such line."""
    words = line.split(" ")
    if len(words) != 3 or words[0] != "source":
        return None
    return place_of(words[1], words[2])


def readings_of(chart, text):
    """Return the pair of the readings and the clock of a text."""
    lines = lines_of(text)
    clock = clock_of(lines[0]) if lines else None
    if clock is None or not are_readings(chart, (), clock):
        raise FaultyLine(1)
    readings = []
    for line in lines[1:]:
        reading = reading_of(line)
        if reading is None or not are_readings(chart, readings + [reading], clock):
            raise FaultyLine(len(readings) + 2)
        readings.append(reading)
    return (tuple(readings), clock)


def clock_of(line):
    """Return the clock in its line, or None if it is no such line."""
    words = line.split(" ")
    if len(words) != 2 or words[0] != "clock":
        return None
    return number_of(words[1])


def reading_of(line):
    """Return the reading in the line of a gauge, or None if it is no such line."""
    words = line.split(" ")
    if len(words) < 4 or words[0] != "gauge":
        return None
    gauge = place_of(words[1], words[2])
    if gauge is None:
        return None
    if words[3:] == ["silent"]:
        return (gauge, None)
    if len(words) != 5 or words[3] != "at" or number_of(words[4]) is None:
        return None
    return (gauge, number_of(words[4]))


def place_of(row, column):
    """Return the place that two words tell, or None."""
    place = (number_of(row), number_of(column))
    if None in place:
        return None
    return place


def number_of(word):
    """Return the number that a word tells, written as texts write it, or None."""
    # No number of a text has more digits than the last clock, and Python does not read one of some thousands.
    if not word.isdecimal() or len(word) > len(str(LAST_CLOCK)) or str(int(word)) != word:
        return None
    return int(word)
