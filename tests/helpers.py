"""What several tests need: charts, kinds of values, and a slow way to travel times."""

import itertools
import random

from shorewarn.charts import Chart

SIGNS = "123456789abcdefghi^#"
WATER = "123456789"
LAND = "abcdefghi"

EXAMPLE = Chart(("111", "aa#", "^aa"), ((0, 2),))

# Each sign once, so that a test can go over all kinds of cells.
ALL_SIGNS = Chart(("1234567", "89abcde", "fghi^#1"), ((0, 0), (0, 3), (1, 1), (2, 6)))


def places_of(chart):
    return list(itertools.product(range(len(chart.rows)), range(len(chart.rows[0]))))


def sign_of(chart, place):
    return chart.rows[place[0]][place[1]]


def water_of(chart):
    return [place for place in places_of(chart) if sign_of(chart, place) in WATER]


def outside_of(chart):
    """Pairs just outside of the chart on each side, and those that negative indexes would find."""
    height, width = len(chart.rows), len(chart.rows[0])
    ring = [(row, column) for row in range(-1, height + 1) for column in range(-1, width + 1)]
    around = [place for place in ring if place not in places_of(chart)]
    return around + [(-height, 0), (0, -width), (-height, -width), (height, width)]


def is_plain(value):
    """Tell whether a value is of the kinds that point 3 lists, objects aside."""
    if type(value) is tuple:
        return all(is_plain(part) for part in value)
    return value is None or type(value) in (int, str, bool)


def random_charts(number, sides=(1, 7), signs="1123456789a^#"):
    """Charts that are the same in each run; small digits and water are the more frequent."""
    chance = random.Random(7)
    charts = []
    while len(charts) < number:
        height, width = chance.randint(*sides), chance.randint(*sides)
        rows = tuple("".join(chance.choice(signs) for _ in range(width)) for _ in range(height))
        places = itertools.product(range(height), range(width))
        water = [(row, column) for row, column in places if rows[row][column] in WATER]
        if water:
            sources = chance.sample(water, min(len(water), chance.randint(1, 6)))
            charts.append(Chart(rows, tuple(sorted(sources))))
    return charts


def slow_times(chart, start):
    """The travel times from a water cell, by trying each step until nothing gets less."""
    water = water_of(chart)
    times = {start: 0}
    changed = True
    while changed:
        changed = False
        for one, two in itertools.product(water, water):
            if one in times and abs(one[0] - two[0]) + abs(one[1] - two[1]) == 1:
                time = times[one] + int(sign_of(chart, one)) + int(sign_of(chart, two))
                if two not in times or time < times[two]:
                    times[two] = time
                    changed = True
    return times
