"""The ways of waves over water, and the minutes that they take."""

from heapq import heappop, heappush

from shorewarn.charts import beside, grid, is_water


def wave_times(chart, cell):
    """Return the grid of the travel times from a water cell."""
    return grid(chart, reached_times(chart, cell))


def wave_time(chart, one, two):
    """Return the travel time between two water cells, or None."""
    return reached_times(chart, one).get(two)


def wave_path(chart, one, two):
    """Return a way between two water cells with the travel time, or None."""
    times = reached_times(chart, one)
    if two not in times:
        return None
    path = [two]
    while path[-1] != one:
        path.append(cell_before(chart, times, path[-1]))
    return tuple(path[::-1])


def reached_times(chart, cell):
    """Return the travel times from a water cell to all cells that it reaches, a dict."""
    times = {}
    waiting = [(0, cell)]
    while waiting:
        time, place = heappop(waiting)
        # A cell may wait more than once; its least time comes first.
        if place not in times:
            times[place] = time
            for other in water_beside(chart, place):
                heappush(waiting, (time + step_minutes(chart, place, other), other))
    return times


def cell_before(chart, times, place):
    """Return a cell from which a wave comes to a place in just its travel time."""
    # Every step takes time, so this cell is nearer to the start of the wave.
    for other in water_beside(chart, place):
        if times[other] + step_minutes(chart, other, place) == times[place]:
            return other
    return None


def water_beside(chart, place):
    """Return the water cells beside a cell, ascending, a list."""
    return [other for other in beside(chart, place) if is_water(chart, other)]


def step_minutes(chart, one, two):
    """Return the minutes that a wave needs between two water cells beside each other."""
    return crossing_minutes(chart, one) + crossing_minutes(chart, two)


def crossing_minutes(chart, place):
    """Return the minutes to cross a water cell."""
    row, column = place
    return int(chart.rows[row][column])
