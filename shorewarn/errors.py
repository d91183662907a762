"""The errors that the program raises."""


class ShoreError(ValueError):
    """The base class of all errors of the program."""


class BadChart(ShoreError):
    """Rows and sources that make no chart."""


class NoSuchCell(ShoreError):
    """A pair that is no cell, or no cell of the kind asked for."""


class BadEvent(ShoreError):
    """Starts that make no event on the chart."""


class BadReadings(ShoreError):
    """Readings, a clock or gauges that cannot be on the chart."""


class ClockBack(ShoreError):
    """A new clock that does not go on, or goes on too far."""


class NotAGauge(ShoreError):
    """A report from a cell at which the watch has no gauge."""


class AlreadyReported(ShoreError):
    """A report of a gauge that has a time already."""


class NotInTime(ShoreError):
    """A report whose time is not within the time since the last clock."""


class TooManyDeeds(ShoreError):
    """An observation more than can be undone."""


class FaultyLine(ShoreError):
    """A text that is none of a chart or of readings, from this line on."""

    def __init__(self, line):
        self.line = line


class NotExplained(ShoreError):
    """Readings that no event explains, with the pair (gauge, reasons)."""

    def __init__(self, refutation):
        self.refutation = refutation
