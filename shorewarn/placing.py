"""Whom gauges warn in time, and the fewest gauges or shelters with which all places are sure."""

from itertools import combinations

from shorewarn.charts import beside, is_land, with_high
from shorewarn.escapes import reached_cells, safe_walk, unsafe_minutes
from shorewarn.waves import reached_times


class Alarm:
    """What gauges on a chart do for whoever begins to walk with the first report, for all cells at once."""

    def __init__(self, chart, gauges):
        waves = {source: reached_times(chart, source) for source in chart.sources}
        self.chart = chart
        self.heard = hearing_times(waves, gauges)
        self.deaf = {source: waves[source] for source in waves if source not in self.heard}
        self.minute = reporting_minute(self.heard, self.deaf)
        self.event = tuple([(source, self.worst_start(source)) for source in chart.sources])
        self.unsafe = unsafe_minutes(chart, self.event)

    def worst_start(self, source):
        """Return when a source starts in the worst event."""
        if source in self.deaf:
            return 0
        return self.minute - self.heard[source]

    def told(self, start):
        """Return what is told for a cell of land or high ground."""
        source = self.deaf_source(start)
        if source is not None:
            return ("deaf", source)
        if not self.heard:
            return ("silent",)
        walk = safe_walk(self.chart, self.unsafe, start, self.minute)
        if walk is None:
            return ("cut", self.minute, self.event, reached_cells(self.chart, self.unsafe, start, self.minute))
        return ("walk", self.minute, self.event, walk)

    def deaf_source(self, start):
        """Return the first deaf source whose waves come beside a cell, if it is land, or None."""
        if is_land(self.chart, start):
            for source, times in self.deaf.items():
                if any([other in times for other in beside(self.chart, start)]):
                    return source
        return None


def hearing_times(waves, gauges):
    """Return the least travel time to a gauge from each source that is not deaf, a dict."""
    heard = {}
    for source, times in waves.items():
        reached = [times[gauge] for gauge in gauges if gauge in times]
        if reached:
            heard[source] = min(reached)
    return heard


def reporting_minute(heard, deaf):
    """Return the minute of the first report in the worst event."""
    # By then the waves of deaf sources, which start at 0, have come wherever they come to.
    return max(list(heard.values()) + [1 + max(times.values()) for times in deaf.values()])


def warned(chart, gauges, start):
    """Return what the gauges do for whoever is at a cell: a walk in time, or why there is none."""
    return Alarm(chart, gauges).told(start)


def fewest_gauges(chart, candidates, places):
    """Return the fewest gauges out of candidates with which all places are sure, or None."""
    for chosen in choices(candidates):
        if are_sure(chart, chosen, places):
            return chosen
    return None


def fewest_shelters(chart, gauges, places, candidates):
    """Return the fewest cells out of candidates that, made high ground, make all places sure, or None."""
    for chosen in choices(candidates):
        if are_sure(with_high(chart, chosen), gauges, places):
            return chosen
    return None


def choices(candidates):
    """Return all choices out of ascending candidates, a list: fewer ones first, of as many as tuples are ordered."""
    several = list(candidates)
    found = []
    for number in range(len(several) + 1):
        found.extend(list(combinations(several, number)))
    return found


def are_sure(chart, gauges, places):
    """Tell whether all places are sure with the gauges."""
    alarm = Alarm(chart, gauges)
    for place in places:
        if alarm.told(place)[0] not in ("walk", "silent"):
            return False
    return True
