"""Walks to high ground that are safe whatever event it is, and the events that cut all walks."""

from heapq import heappop, heappush

from shorewarn.charts import HIGH, LAND, beside, cells, grid, is_ground, is_high, is_land
from shorewarn.events import arrival_times
from shorewarn.forecasts import earliest_event

HIGH_MINUTES = 1


def unsafe_from(chart, readings, clock):
    """Return the grid of the minutes from which land cells are unsafe under the earliest event."""
    return grid(chart, unsafe_minutes(chart, earliest_event(chart, readings, clock)))


def unsafe_minutes(chart, event):
    """Return from when each land cell that is ever unsafe under an event is so, a dict."""
    came = arrival_times(chart, event)
    unsafe = {}
    for place in cells(chart):
        waves = [came[other] for other in beside(chart, place) if other in came]
        if waves and is_land(chart, place):
            unsafe[place] = min(waves)
    return unsafe


def escape(chart, readings, clock, start, minute):
    """Return a sure walk from a cell and a minute on, or what cuts every walk."""
    event = earliest_event(chart, readings, clock)
    unsafe = unsafe_minutes(chart, event)
    walk = safe_walk(chart, unsafe, start, minute)
    if walk is None:
        return ("cut", event, reached_cells(chart, unsafe, start, minute))
    return ("walk", walk)


def last_minute(chart, readings, clock, start):
    """Return the last minute from which on there is a sure walk, or that there is one ever or never."""
    event = earliest_event(chart, readings, clock)
    unsafe = unsafe_minutes(chart, event)
    # What is unsafe at any time counts as unsafe at once here: that leaves the walks over cells that never are.
    walk = safe_walk(chart, {place: clock for place in unsafe}, start, clock)
    if walk is not None:
        return ("ever", walk)
    if safe_walk(chart, unsafe, start, clock) is None:
        return ("never", event, reached_cells(chart, unsafe, start, clock))
    minute = last_safe_minute(chart, unsafe, start, clock)
    walk = safe_walk(chart, unsafe, start, minute)
    return ("minute", minute, walk, event, reached_cells(chart, unsafe, start, minute + 1))


def last_safe_minute(chart, unsafe, start, clock):
    """Return the last minute with a safe walk, if there is one from the clock on, but not from every minute on."""
    low = clock
    # From then on no cell that is ever unsafe can be left, and every walk goes over such a cell.
    high = max(unsafe.values())
    # A walker may wait, so there is a safe walk from every minute before one with a safe walk.
    while high - low > 1:
        middle = (low + high) // 2
        if safe_walk(chart, unsafe, start, middle) is None:
            high = middle
        else:
            low = middle
    return low


def safe_walk(chart, unsafe, start, minute):
    """Return a walk from a cell and a minute on that leaves each cell before it is unsafe, or None."""
    came = came_into(chart, unsafe, start, minute)
    ends = [place for place in came if is_high(chart, place)]
    if not ends:
        return None
    return walk_to(came, start, ends[0])


def walk_to(came, start, end):
    """Return the walk from the start that comes into its last cell in the least minute."""
    places = [end]
    while places[-1] != start:
        places.append(came[places[-1]][1])
    return tuple([(place, came[place][0]) for place in places[::-1]])


def reached_cells(chart, unsafe, start, minute):
    """Return the cells that a walker can come into, ascending, with the least minutes in which this is possible."""
    came = came_into(chart, unsafe, start, minute)
    return tuple(sorted([(place, came[place][0]) for place in came]))


def came_into(chart, unsafe, start, minute):
    """Return for each cell that a walker can come into the least minute and the cell before it, a dict.

    Before the start is the start itself.
    """
    came = {}
    waiting = [(minute, start, start)]
    while waiting:
        time, place, before = heappop(waiting)
        # A cell may wait more than once; its least minute comes first.
        if place not in came:
            came[place] = (time, before)
            if can_be_left(chart, unsafe, place, time):
                for other in ground_beside(chart, place):
                    heappush(waiting, (time + entering_minutes(chart, other), other, place))
    return came


def can_be_left(chart, unsafe, place, minute):
    """Tell whether a walk can go on from this cell in this minute."""
    # A walk ends on high ground.
    if is_high(chart, place):
        return False
    return place not in unsafe or minute < unsafe[place]


def ground_beside(chart, place):
    """Return the cells of land and high ground beside a cell, ascending, a list."""
    return [other for other in beside(chart, place) if is_ground(chart, other)]


def entering_minutes(chart, place):
    """Return the minutes to come into a cell of land or high ground."""
    row, column = place
    sign = chart.rows[row][column]
    if sign == HIGH:
        return HIGH_MINUTES
    return LAND.index(sign) + 1
