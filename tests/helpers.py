"""What several tests need: charts, kinds of values, and slow ways to what the program tells."""

import functools
import itertools
import random

from shorewarn.charts import Chart

SIGNS = "123456789abcdefghi^#"
WATER = "123456789"
LAND = "abcdefghi"

EXAMPLE = Chart(("111", "aa#", "^aa"), ((0, 2),))

# The travel times from (0, 0) are 0, 2, 4, 6 and 8, and from (0, 4) the same backwards.
LINE = Chart(("11111",), ((0, 0), (0, 4)))

# Three lakes: in the upper one the travel times from (0, 0) are 0, 2, 6, 10 and 12, in the lower left one there is
# a source, in the lower right one there is none.
LAKES = Chart(("11311", "aaa^#", "11#12"), ((0, 0), (0, 4), (2, 0)))

# The travel times to the water beside the land are 16, 18 and 20, and the walk along it takes 2, 3 and 1 minutes.
ROAD = Chart(("55111", "##abc", "####^"), ((0, 0),))
ROAD_READINGS = (((0, 0), 4),)

# Each sign once, so that a test can go over all kinds of cells.
ALL_SIGNS = Chart(("1234567", "89abcde", "fghi^#1"), ((0, 0), (0, 3), (1, 1), (2, 6)))


def places_of(chart):
    return list(itertools.product(range(len(chart.rows)), range(len(chart.rows[0]))))


def sign_of(chart, place):
    return chart.rows[place[0]][place[1]]


def water_of(chart):
    return [place for place in places_of(chart) if sign_of(chart, place) in WATER]


def ground_of(chart):
    return [place for place in places_of(chart) if sign_of(chart, place) in LAND + "^"]


def outside_of(chart):
    """Pairs just outside of the chart on each side, and those that negative indexes would find."""
    height, width = len(chart.rows), len(chart.rows[0])
    ring = [(row, column) for row in range(-1, height + 1) for column in range(-1, width + 1)]
    around = [place for place in ring if place not in places_of(chart)]
    return around + [(-height, 0), (0, -width), (-height, -width), (height, width)]


def is_plain(value):
    """Tell whether a value is of the kinds that point 3 lists, objects aside."""
    if type(value) is tuple:
        return all(is_plain(part) for part in value)
    return value is None or type(value) in (int, str, bool)


def random_charts(number, sides=(1, 7), signs="1123456789a^#"):
    """Charts that are the same in each run; small digits and water are the more frequent."""
    chance = random.Random(7)
    charts = []
    while len(charts) < number:
        height, width = chance.randint(*sides), chance.randint(*sides)
        rows = tuple("".join(chance.choice(signs) for _ in range(width)) for _ in range(height))
        places = itertools.product(range(height), range(width))
        water = [(row, column) for row, column in places if rows[row][column] in WATER]
        if water:
            sources = chance.sample(water, min(len(water), chance.randint(1, 6)))
            charts.append(Chart(rows, tuple(sorted(sources))))
    return charts


@functools.lru_cache(maxsize=None)
def slow_times(chart, start):
    """The travel times from a water cell, by trying each step until nothing gets less."""
    water = water_of(chart)
    times = {start: 0}
    changed = True
    while changed:
        changed = False
        for one, two in itertools.product(water, water):
            if one in times and abs(one[0] - two[0]) + abs(one[1] - two[1]) == 1:
                time = times[one] + int(sign_of(chart, one)) + int(sign_of(chart, two))
                if two not in times or time < times[two]:
                    times[two] = time
                    changed = True
    return times


def slow_arrivals(chart, event):
    """The arrivals of an event, a dict."""
    came = {}
    for source, start in event:
        for place, travel in slow_times(chart, source).items():
            came[place] = min(start + travel, came.get(place, start + travel))
    return came


def as_grid(chart, told):
    return tuple(tuple(told.get((row, column)) for column in range(len(signs)))
                 for row, signs in enumerate(chart.rows))


def slow_agrees(readings, clock, came):
    """Tell whether these arrivals are those of an event that agrees with the readings (point 12)."""
    for gauge, time in readings:
        if time is None and gauge in came and came[gauge] <= clock:
            return False
        if time is not None and came.get(gauge) != time:
            return False
    return True


def all_events(chart, last):
    """All events on the chart with times up to the last one, as point 8 says."""
    for times in itertools.product((None, *range(last + 1)), repeat=len(chart.sources)):
        event = tuple((source, time) for source, time in zip(chart.sources, times) if time is not None)
        if event:
            yield event


def agreeing(chart, readings, clock, last):
    """All events with times up to the last one that agree with the readings, with their arrivals."""
    pairs = [(event, slow_arrivals(chart, event)) for event in all_events(chart, last)]
    return [(event, came) for event, came in pairs if slow_agrees(readings, clock, came)]


def is_right_refutation(chart, readings, clock, gauge, reasons):
    """Tell whether a gauge and reasons are a refutation, word by word as in point 15."""
    seen = dict(readings)
    if seen.get(gauge) is None or len(reasons) != len(chart.sources):
        return False
    for source, reason in zip(chart.sources, reasons):
        times = slow_times(chart, source)
        if reason[0] == "far" and gauge in times or reason[0] != "far" and gauge not in times:
            return False
        if reason[0] == "start" and seen[gauge] - times[gauge] >= 0:
            return False
        if reason[0] == "reading":
            other = reason[1]
            if other not in seen or other not in times:
                return False
            comes = seen[gauge] - times[gauge] + times[other]
            if seen[other] is None and comes > clock or seen[other] is not None and comes >= seen[other]:
                return False
    return True


def random_readings(chart, chance, clock):
    """Readings for some event, often with some of them changed so that perhaps no event explains them."""
    sources = chance.sample(chart.sources, chance.randint(1, len(chart.sources)))
    came = slow_arrivals(chart, [(source, chance.randint(0, clock + 1)) for source in sources])
    water = water_of(chart)
    gauges = sorted(chance.sample(water, min(len(water), chance.randint(0, 5))))
    times = {gauge: came[gauge] if came.get(gauge, clock + 1) <= clock else None for gauge in gauges}
    for gauge in chance.sample(gauges, chance.choice((0, 0, 1, len(gauges)))) if gauges else ():
        times[gauge] = chance.choice((None, *range(clock + 1)))
    return tuple((gauge, times[gauge]) for gauge in gauges)


def random_cases(number, most_sources=2, most_minutes=9):
    """Small charts with readings and a clock, for which all events can be tried."""
    chance = random.Random(11)
    cases = []
    for chart in itertools.cycle(random_charts(800, (1, 4), "1112aab^#")):
        if len(cases) == number:
            return cases
        longest = max(max(slow_times(chart, place).values()) for place in water_of(chart))
        if len(chart.sources) <= most_sources and 2 <= longest <= most_minutes:
            clock = chance.randint(0, 8)
            cases.append((chart, random_readings(chart, chance, clock), clock))


def last_to_try(chart, clock):
    """A time later than every latest arrival that there is: a tight source starts up to the clock."""
    return clock + 1 + max(max(slow_times(chart, place).values()) for place in water_of(chart))


def entering(chart, place):
    """The minutes to come into a cell of land or high ground (point 4)."""
    sign = sign_of(chart, place)
    return 1 if sign == "^" else LAND.index(sign) + 1


def near(chart, place):
    row, column = place
    around = ((row - 1, column), (row + 1, column), (row, column - 1), (row, column + 1))
    return [(row, column) for row, column in around
            if 0 <= row < len(chart.rows) and 0 <= column < len(chart.rows[0])]


def slow_unsafe(chart, came):
    """From when land cells are unsafe with these arrivals (point 18), a dict."""
    unsafe = {}
    for place in places_of(chart):
        waves = [came[other] for other in near(chart, place) if other in came]
        if sign_of(chart, place) in LAND and waves:
            unsafe[place] = min(waves)
    return unsafe


def is_walk(chart, walk):
    """Tell whether these rows are a walk (point 19)."""
    places = [place for place, _ in walk]
    if any(sign_of(chart, place) not in LAND for place in places[:-1]) or sign_of(chart, places[-1]) != "^":
        return False
    steps = zip(walk, walk[1:])
    return all(after in near(chart, before) and late >= early + entering(chart, after)
               for (before, early), (after, late) in steps)


def is_safe(chart, walk, unsafe):
    """Tell whether a walk leaves each land cell before it is unsafe (point 19)."""
    return all(late - entering(chart, after) < unsafe.get(before, late + 1)
               for (before, _), (after, late) in zip(walk, walk[1:]))


def slow_reached(chart, unsafe, start, minute):
    """The least minutes in which a walker can come into cells, by trying for each minute to wait and to go on."""
    ground = {place for place in places_of(chart) if sign_of(chart, place) in LAND + "^"}
    last = minute + sum(entering(chart, place) for place in ground)
    there = {now: set() for now in range(minute, last + 20)}
    there[minute].add(start)
    least = {}
    for now in range(minute, last + 1):
        for place in there[now]:
            least.setdefault(place, now)
            there[now + 1].add(place)
            if sign_of(chart, place) in LAND and now < unsafe.get(place, now + 1):
                for other in near(chart, place):
                    if other in ground:
                        there[now + entering(chart, other)].add(other)
    return least
