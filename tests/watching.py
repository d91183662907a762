"""What the tests of watches need: a chart with gauges, and the checks around each observation."""

import unittest

from helpers import is_plain
from shorewarn.charts import Chart
from shorewarn.errors import ShoreError

# A row of water with a source at its left end; the travel times are 0, 2, 4, 6 and 8.
ROW = Chart(("11111", "##a^#"), ((0, 0),))
ALL = tuple((0, column) for column in range(5))


def state(watch):
    return watch.readings(), watch.clock(), watch.log()


class WatchCase(unittest.TestCase):
    def refused(self, error, watch, clock, reports):
        """Check that an observation is refused and changes nothing."""
        before = state(watch)
        with self.subTest(clock=clock, reports=reports):
            with self.assertRaises(ShoreError) as caught:
                watch.observe(clock, reports)
            self.assertIs(type(caught.exception), error)
            self.assertEqual(state(watch), before)
        return caught.exception

    def taken(self, watch, clock, reports=()):
        """Check that an observation is taken, the log and the clock with it."""
        log = watch.log()
        self.assertIsNone(watch.observe(clock, reports))
        self.assertEqual((watch.clock(), watch.log()), (clock, log + ((clock, reports),)))
        for gauge, time in reports:
            self.assertEqual(dict(watch.readings())[gauge], time)
        self.assertTrue(is_plain(state(watch)))
