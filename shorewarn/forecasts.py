"""What readings tell of the events: which ones agree with them, and when their waves can come."""

from shorewarn.charts import grid
from shorewarn.errors import NotExplained
from shorewarn.events import arrival_times, arrivals
from shorewarn.waves import reached_times


def agrees(chart, readings, clock, event):
    """Tell whether an event agrees with the readings."""
    came = arrival_times(chart, event)
    return all([is_as_read(came.get(gauge), time, clock) for gauge, time in readings])


def is_as_read(arrival, time, clock):
    """Tell whether the arrival at a gauge, or None, is what its reading says."""
    if time is None:
        return arrival is None or arrival > clock
    return arrival == time


def least_starts(chart, readings, clock):
    """Return all sources, ascending, with their least starts."""
    waves = least_waves(chart, readings, clock)
    return tuple([(source, waves[source][source]) for source in chart.sources])


def tight(chart, readings, clock):
    """Return for each reading with a time its gauge and its tight sources, in order."""
    return tight_of(least_waves(chart, readings, clock), readings)


def least_waves(chart, readings, clock):
    """Return for each source when its wave from its least start comes to the cells in its reach, a dict of dicts."""
    waves = {}
    for source in chart.sources:
        times = reached_times(chart, source)
        start = least_start(times, readings, clock)
        waves[source] = {place: start + times[place] for place in times}
    return waves


def least_start(times, readings, clock):
    """Return the least start of the source that has these travel times."""
    bounds = [least_arrival(time, clock) - times[gauge] for gauge, time in readings if gauge in times]
    return max([0] + bounds)


def least_arrival(time, clock):
    """Return the first minute in which a wave can come to a gauge with this time, or None, as its reading."""
    if time is None:
        return clock + 1
    return time


def tight_of(waves, readings):
    """Return what tight says of the readings, from the waves of the least starts."""
    told = []
    for gauge, time in readings:
        if time is not None:
            told.append((gauge, tuple([source for source in waves if waves[source].get(gauge) == time])))
    return tuple(told)


def explained(chart, readings, clock):
    """Return the earliest event, or the first gauge without a tight source and the reasons against each source."""
    waves = least_waves(chart, readings, clock)
    for gauge, sources in tight_of(waves, readings):
        if not sources:
            return ("refuted", gauge, first_reasons(chart, readings, clock, gauge))
    return ("event", tuple([(source, waves[source][source]) for source in chart.sources]))


def first_reasons(chart, readings, clock, gauge):
    """Return for each source the first reason why it has not brought the wave to a gauge without a tight source."""
    seen = {place: time for place, time in readings}
    return tuple([first_reason(reached_times(chart, source), seen, clock, gauge) for source in chart.sources])


def first_reason(times, seen, clock, gauge):
    """Return the first right reason for the source with these travel times, or None if it is tight for the gauge."""
    for reason in [("far",), ("start",)] + [("reading", other) for other in seen]:
        if is_right(times, seen, clock, gauge, reason):
            return reason
    return None


def is_right(times, seen, clock, gauge, reason):
    """Tell whether for this reason the source with these travel times has not brought the wave to the gauge."""
    if gauge not in times:
        return reason[0] == "far"
    start = seen[gauge] - times[gauge]
    if reason[0] == "reading":
        return comes_too_soon(times, seen, clock, start, reason[1])
    return reason[0] == "start" and start < 0


def comes_too_soon(times, seen, clock, start, other):
    """Tell whether a wave that starts then comes to a gauge with a reading sooner than this reading allows."""
    if other not in seen or other not in times:
        return False
    return start + times[other] < least_arrival(seen[other], clock)


def is_refutation(chart, readings, clock, gauge, reasons):
    """Tell whether a water cell and reasons are a refutation of the readings."""
    seen = {place: time for place, time in readings}
    if seen.get(gauge) is None or len(reasons) != len(chart.sources):
        return False
    return all([is_right(reached_times(chart, source), seen, clock, gauge, reason)
                for source, reason in zip(chart.sources, reasons)])


def earliest_event(chart, readings, clock):
    """Return the earliest event, or raise NotExplained."""
    told = explained(chart, readings, clock)
    if told[0] == "refuted":
        raise NotExplained(told[1:])
    return told[1]


def earliest(chart, readings, clock):
    """Return the grid of the earliest arrivals."""
    return arrivals(chart, earliest_event(chart, readings, clock))


def latest(chart, readings, clock):
    """Return the grid of the latest arrivals."""
    earliest_event(chart, readings, clock)
    waves = least_waves(chart, readings, clock)
    told = {}
    # An event agrees only if each reading with a time has a tight source that starts at its least start; all other
    # sources may stay away. So each reading sets a bound: the last of the waves from its tight sources, which are all
    # in the gauge's lake.
    for _, sources in tight_of(waves, readings):
        last = last_waves([waves[source] for source in sources])
        for place, time in last.items():
            told[place] = min(time, told.get(place, time))
    return grid(chart, told)


def last_waves(waves):
    """Return when the last of some waves of one lake comes to each cell of it, a dict."""
    return {place: max([wave[place] for wave in waves]) for place in waves[0]}


def event_at(chart, readings, clock, cell, time):
    """Return an event that agrees and has just this arrival, or with None no arrival, at the cell, or None."""
    event = earliest_event(chart, readings, clock)
    # A wave takes as long there as back, so these are also the times from the sources to the cell.
    times = reached_times(chart, cell)
    # Each start of an event as asked for is one of these or later, and more of these do no harm: if there is such an
    # event, then this is one.
    if time is None:
        found = tuple([start for start in event if start[0] not in times])
    else:
        found = tuple([put_off(start, times, time) for start in event])
    if found and arrival_times(chart, found).get(cell) == time and agrees(chart, readings, clock, found):
        return found
    return None


def put_off(start, times, time):
    """Return the start, or the later one with which its wave does not come sooner than at the time."""
    source, begun = start
    if source not in times:
        return start
    return (source, max(begun, time - times[source]))
