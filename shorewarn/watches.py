"""Watches, which keep reports while the clock goes on."""

from shorewarn.charts import LAST_CLOCK, check_ground, check_readings
from shorewarn.errors import AlreadyReported, ClockBack, NotAGauge, NotInTime, TooManyDeeds
from shorewarn.escapes import escape, last_minute
from shorewarn.forecasts import earliest, earliest_event, latest

MOST_DEEDS = 20


class Watch:
    """A watch: gauges on a chart, and the observations so far."""

    def __init__(self, chart, gauges):
        check_readings(chart, silent_readings(gauges), 0)
        self.chart = chart
        self.gauges = gauges
        # All observations can be undone, so they alone tell the clock and the readings.
        self.observations = []

    def readings(self):
        """Return the readings."""
        readings = silent_readings(self.gauges)
        for _, reports in self.observations:
            readings = with_reports(readings, reports)
        return readings

    def clock(self):
        """Return the clock."""
        if not self.observations:
            return 0
        return self.observations[-1][0]

    def log(self):
        """Return the observations that can be undone, the first one first."""
        return tuple(self.observations)

    def observe(self, clock, reports):
        """Take a new clock and reports, or refuse them and change nothing."""
        if not self.clock() < clock <= LAST_CLOCK:
            raise ClockBack()
        check_reports(self.readings(), self.clock(), clock, reports)
        if len(self.observations) == MOST_DEEDS:
            raise TooManyDeeds()
        # This refuses what no event explains.
        earliest_event(self.chart, with_reports(self.readings(), reports), clock)
        self.observations.append((clock, reports))

    def undo(self):
        """Take the last observation back and tell True, or False if there is none."""
        if not self.observations:
            return False
        self.observations.pop()
        return True

    def fork(self):
        """Return another watch that has all that this one has."""
        other = Watch(self.chart, self.gauges)
        other.observations = list(self.observations)
        return other

    def earliest(self):
        """Return the grid of the earliest arrivals."""
        return earliest(self.chart, self.readings(), self.clock())

    def latest(self):
        """Return the grid of the latest arrivals."""
        return latest(self.chart, self.readings(), self.clock())

    def escape(self, start):
        """Return a sure walk from a cell and the clock on, or what cuts every walk."""
        check_ground(self.chart, start)
        return escape(self.chart, self.readings(), self.clock(), start, self.clock())

    def last_minute(self, start):
        """Return the last minute from the clock on with a sure walk from a cell, or that there is one ever or never."""
        check_ground(self.chart, start)
        return last_minute(self.chart, self.readings(), self.clock(), start)


def silent_readings(gauges):
    """Return the readings of gauges that have seen no wave."""
    return tuple([(gauge, None) for gauge in gauges])


def with_reports(readings, reports):
    """Return the readings with the times of the reports."""
    seen = {gauge: time for gauge, time in readings}
    for gauge, time in reports:
        seen[gauge] = time
    return tuple(seen.items())


def check_reports(readings, before, clock, reports):
    """Refuse the first report that cannot come between the clock before and the new one."""
    seen = {gauge: time for gauge, time in readings}
    for gauge, time in reports:
        if gauge not in seen:
            raise NotAGauge()
        if seen[gauge] is not None:
            raise AlreadyReported()
        if not before < time <= clock:
            raise NotInTime()
        seen[gauge] = time
