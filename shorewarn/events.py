"""Events: when their waves come, and events that are made out of others."""

from shorewarn.charts import grid
from shorewarn.waves import reached_times


def arrivals(chart, event):
    """Return the grid of the arrivals of an event."""
    return grid(chart, arrival_times(chart, event))


def arrival_times(chart, event):
    """Return the arrivals of an event at all cells that its waves come to, a dict."""
    came = {}
    for source, start in event:
        times = reached_times(chart, source)
        for place, travel in times.items():
            came[place] = min(start + travel, came.get(place, start + travel))
    return came


def merged(one, two):
    """Return the event with the sources of both events, each with its lesser time."""
    starts = {}
    for source, time in one + two:
        starts[source] = min(time, starts.get(source, time))
    return tuple(sorted(starts.items()))


def delayed(event, minutes):
    """Return the event so many minutes later."""
    return tuple([(source, time + minutes) for source, time in event])


def reduced(chart, event):
    """Return the event without its needless starts."""
    return tuple([start for start in event if not is_needless(chart, event, start)])


def is_needless(chart, event, start):
    """Tell whether another start of the event comes to the source of this one no later than it starts."""
    source, time = start
    # A wave takes as long there as back, so these are also the times from the other sources to this one.
    times = reached_times(chart, source)
    return any([other != source and other in times and begun + times[other] <= time for other, begun in event])
