"""Charts and their cells, and what events and readings on a chart can be."""

from shorewarn.errors import BadChart, BadEvent, BadReadings, NoSuchCell

WATER = "123456789"
LAND = "abcdefghi"
HIGH = "^"
ROCK = "#"
MOST_SIDE = 7
MOST_SOURCES = 6
LAST_START = 100000
LAST_CLOCK = 90000


class Chart:
    """A chart: rows of signs, and the cells at which waves can start."""

    def __init__(self, rows, sources):
        # The sources are looked up in the rows, so the rows are checked first.
        if not are_rows(rows) or not are_sources(rows, sources):
            raise BadChart()
        self.rows = rows
        self.sources = sources


def are_rows(rows):
    """Tell whether these can be the rows of a chart."""
    if not 1 <= len(rows) <= MOST_SIDE:
        return False
    width = len(rows[0])
    if not 1 <= width <= MOST_SIDE:
        return False
    return all([len(row) == width and has_signs_only(row) for row in rows])


def has_signs_only(row):
    """Tell whether each character of a row is a sign of charts."""
    return all([sign in WATER + LAND + HIGH + ROCK for sign in row])


def are_sources(rows, sources):
    """Tell whether these can be the sources of a chart with these rows."""
    if not 1 <= len(sources) <= MOST_SOURCES or not is_ascending(sources):
        return False
    return all([has_sign(rows, source, WATER) for source in sources])


def is_ascending(places):
    """Tell whether places are in their order, each once."""
    return list(places) == sorted(set(places))


def is_inside(rows, place):
    """Tell whether a pair of integers is a cell of the rows."""
    row, column = place
    return 0 <= row < len(rows) and 0 <= column < len(rows[0])


def has_sign(rows, place, signs):
    """Tell whether a pair of integers is a cell that has one of these signs."""
    row, column = place
    return is_inside(rows, place) and rows[row][column] in signs


def is_water(chart, place):
    """Tell whether a pair of integers is a water cell of the chart."""
    return has_sign(chart.rows, place, WATER)


def is_land(chart, place):
    """Tell whether a pair of integers is a land cell of the chart."""
    return has_sign(chart.rows, place, LAND)


def is_high(chart, place):
    """Tell whether a pair of integers is high ground of the chart."""
    return has_sign(chart.rows, place, HIGH)


def is_ground(chart, place):
    """Tell whether a pair of integers is a cell of land or high ground of the chart."""
    return has_sign(chart.rows, place, LAND + HIGH)


def cells(chart):
    """Return all cells of the chart, ascending."""
    height = len(chart.rows)
    width = len(chart.rows[0])
    return tuple([(row, column) for row in range(height) for column in range(width)])


def beside(chart, place):
    """Return the cells beside a cell of any kind, ascending."""
    row, column = place
    around = ((row - 1, column), (row, column - 1), (row, column + 1), (row + 1, column))
    return tuple([other for other in around if is_inside(chart.rows, other)])


def with_high(chart, places):
    """Return the chart in which these land cells are high ground."""
    rows = []
    for row, signs in enumerate(chart.rows):
        changed = [HIGH if (row, column) in places else sign for column, sign in enumerate(signs)]
        rows.append("".join(changed))
    return Chart(tuple(rows), chart.sources)


def grid(chart, told):
    """Return as a grid what a dict tells of cells, with None for all others."""
    rows = []
    for row, signs in enumerate(chart.rows):
        rows.append(tuple([told.get((row, column)) for column in range(len(signs))]))
    return tuple(rows)


def check_water(chart, place):
    """Raise NoSuchCell for all but a water cell of the chart."""
    if not is_water(chart, place):
        raise NoSuchCell()


def check_ground(chart, place):
    """Raise NoSuchCell for all but a cell of land or high ground of the chart."""
    if not is_ground(chart, place):
        raise NoSuchCell()


def check_event(chart, event):
    """Raise BadEvent for all but an event on the chart."""
    started = [source for source, time in event]
    if not started or not is_ascending(started):
        raise BadEvent()
    for source, time in event:
        if source not in chart.sources or not 0 <= time <= LAST_START:
            raise BadEvent()


def check_readings(chart, readings, clock):
    """Raise BadReadings for all but readings on the chart with their clock."""
    if not are_readings(chart, readings, clock):
        raise BadReadings()


def are_readings(chart, readings, clock):
    """Tell whether these can be readings on the chart with this clock."""
    if not 0 <= clock <= LAST_CLOCK or not is_ascending([gauge for gauge, time in readings]):
        return False
    return all([is_water(chart, gauge) and is_up_to(time, clock) for gauge, time in readings])


def is_up_to(time, clock):
    """Tell whether a gauge can have this time, or None, at the clock."""
    return time is None or 0 <= time <= clock
