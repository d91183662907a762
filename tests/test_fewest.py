"""Point 26: cells that are sure with gauges, the fewest gauges, and the fewest shelters."""

import itertools
import random
import unittest

from helpers import EXAMPLE, LAND, ROAD, ground_of, is_plain, places_of, random_charts, sign_of, water_of
from shorewarn.charts import Chart
from shorewarn.placing import fewest_gauges, fewest_shelters, warned

# Two lakes, each with a source, with high ground between them.
TWO = Chart(("11a^a11",), ((0, 0), (0, 6)))

# The way along the shore without its high ground.
NO_HIGH = Chart(("55111", "##abc", "#####"), ((0, 0),))


def is_sure(chart, gauges, places):
    return all(warned(chart, gauges, place)[0] in ("walk", "silent") for place in places)


def all_choices(candidates):
    """All choices of candidates, a smaller one first, of two as large ones the one that is less as a tuple."""
    several = [tuple(place for place, taken in zip(candidates, taken) if taken)
               for taken in itertools.product((False, True), repeat=len(candidates))]
    return sorted(several, key=lambda choice: (len(choice), choice))


def made_high(chart, places):
    rows = tuple("".join("^" if (row, column) in places else sign for column, sign in enumerate(signs))
                 for row, signs in enumerate(chart.rows))
    return Chart(rows, chart.sources)


class FewestGaugesTest(unittest.TestCase):
    def test_none_is_needed(self):
        self.assertEqual(fewest_gauges(EXAMPLE, ((0, 0), (0, 1)), ((2, 0), (2, 2))), ())
        self.assertEqual(fewest_gauges(EXAMPLE, (), ((2, 0),)), ())
        self.assertEqual(fewest_gauges(Chart(("1#1a",), ((0, 0),)), ((0, 0),), ((0, 3),)), ())

    def test_no_place(self):
        self.assertEqual(fewest_gauges(EXAMPLE, ((0, 0), (0, 1)), ()), ())
        self.assertEqual(fewest_gauges(EXAMPLE, (), ()), ())

    def test_one(self):
        self.assertEqual(fewest_gauges(ROAD, ((0, 0),), ((1, 2),)), ((0, 0),))
        self.assertEqual(fewest_gauges(ROAD, ((0, 1),), ((1, 2), (1, 3), (1, 4), (2, 4))), ((0, 1),))

    def test_of_several_with_as_many_gauges_the_first_one(self):
        # From (1, 2) on, the gauges at (0, 0) and (0, 1) are early enough, from (1, 3) on the one at (0, 2), too.
        self.assertEqual(fewest_gauges(ROAD, ((0, 0), (0, 1), (0, 2)), ((1, 2),)), ((0, 0),))
        self.assertEqual(fewest_gauges(ROAD, ((0, 1), (0, 2), (0, 3)), ((1, 2),)), ((0, 1),))
        self.assertEqual(fewest_gauges(ROAD, ((0, 2), (0, 3), (0, 4)), ((1, 3),)), ((0, 2),))
        chart = Chart(("11a^a11", "1#####1"), ((0, 0), (0, 6)))
        candidates = ((0, 0), (0, 6), (1, 0), (1, 6))
        self.assertEqual(fewest_gauges(chart, candidates, ((0, 2), (0, 4))), ((0, 0), (0, 6)))

    def test_not_the_first_candidate(self):
        chart = Chart(("11111a^",), ((0, 4),))
        # From (0, 4) the wave comes to (0, 4) at once, and it is 2 minutes to (0, 3).
        self.assertIsNone(fewest_gauges(chart, ((0, 0), (0, 3), (0, 4)), ((0, 5),)))
        chart = Chart(("1111a^",), ((0, 2),))
        self.assertEqual(fewest_gauges(chart, ((0, 0), (0, 2)), ((0, 4),)), ((0, 2),))
        self.assertEqual(fewest_gauges(TWO, ((0, 0), (0, 6)), ((0, 4),)), ((0, 6),))

    def test_several_where_fewer_do_not_suffice(self):
        self.assertEqual(fewest_gauges(TWO, ((0, 0), (0, 6)), ((0, 2),)), ((0, 0),))
        self.assertEqual(fewest_gauges(TWO, ((0, 0), (0, 6)), ((0, 2), (0, 4))), ((0, 0), (0, 6)))
        self.assertEqual(fewest_gauges(TWO, ((0, 0), (0, 1), (0, 5), (0, 6)), ((0, 2), (0, 4))), ((0, 0), (0, 6)))
        # A gauge at (0, 1) sees a wave when it is beside the land.
        self.assertIsNone(fewest_gauges(TWO, ((0, 1), (0, 6)), ((0, 2), (0, 4))))
        chart = Chart(("11a^a11", "#######", "11a^###"), ((0, 0), (0, 6), (2, 0)))
        candidates = ((0, 0), (0, 1), (0, 6), (2, 0), (2, 1))
        self.assertEqual(fewest_gauges(chart, candidates, ((0, 2), (0, 4), (2, 2))), ((0, 0), (0, 6), (2, 0)))
        self.assertEqual(fewest_gauges(chart, candidates, ((0, 2), (2, 2))), ((0, 0), (2, 0)))

    def test_six_candidates_that_are_all_needed(self):
        rows = ("11a^a11", "#######", "11a^a11", "#######", "11a^a11")
        sources = ((0, 0), (0, 6), (2, 0), (2, 6), (4, 0), (4, 6))
        chart = Chart(rows, sources)
        places = ((0, 2), (0, 4), (2, 2), (2, 4), (4, 2), (4, 4))
        self.assertEqual(fewest_gauges(chart, sources, places), sources)
        self.assertEqual(fewest_gauges(chart, sources, places[1:]), sources[1:])
        self.assertIsNone(fewest_gauges(chart, sources[1:], places))

    def test_nothing_suffices(self):
        self.assertIsNone(fewest_gauges(ROAD, ((0, 2), (0, 3), (0, 4)), ((1, 2),)))
        self.assertIsNone(fewest_gauges(ROAD, (), ((1, 2),)))
        self.assertIsNone(fewest_gauges(NO_HIGH, ((0, 0), (0, 1)), ((1, 2),)))
        self.assertIsNone(fewest_gauges(TWO, ((0, 0), (0, 1)), ((0, 2), (0, 4))))

    def test_one_of_the_places_is_sure_only_without_a_gauge(self):
        # From (0, 5) there is no walk, so it is sure only if nothing is ever heard.
        chart = Chart(("11a^#a",), ((0, 0),))
        self.assertEqual(fewest_gauges(chart, ((0, 0),), ((0, 5),)), ())
        self.assertEqual(fewest_gauges(chart, ((0, 0),), ((0, 2),)), ((0, 0),))
        self.assertIsNone(fewest_gauges(chart, ((0, 0),), ((0, 2), (0, 5))))

    def test_the_order_of_places_does_not_matter(self):
        for places in itertools.permutations(((0, 2), (0, 3), (0, 4))):
            self.assertEqual(fewest_gauges(TWO, ((0, 0), (0, 1), (0, 6)), places), ((0, 0), (0, 6)))

    def test_like_trying_all(self):
        chance = random.Random(3)
        sizes = []
        for chart in random_charts(400, (2, 7), "111aab^#"):
            # Sources hear themselves first, so they are the more useful candidates.
            several = {*chart.sources[:chance.randint(0, 6)], *chance.sample(water_of(chart), 1)}
            candidates = tuple(sorted(several)[:6])
            land = [place for place in places_of(chart) if sign_of(chart, place) in LAND]
            helped = [place for place in land if is_sure(chart, candidates, (place,))]
            places = tuple(chance.sample(helped, min(len(helped), 3)) + land[:chance.choice((0, 0, 0, 1))])
            sure = [choice for choice in all_choices(candidates) if is_sure(chart, choice, places)]
            told = fewest_gauges(chart, candidates, places)
            self.assertEqual(told, sure[0] if sure else None)
            self.assertTrue(is_plain(told))
            sizes.append(len(told) if sure else None)
        for size in (0, 1, 2, None):
            self.assertGreater(sizes.count(size), 5)


class FewestSheltersTest(unittest.TestCase):
    def test_none_is_needed(self):
        self.assertEqual(fewest_shelters(ROAD, ((0, 0),), ((1, 2), (1, 4)), ((1, 3), (1, 4))), ())
        self.assertEqual(fewest_shelters(ROAD, (), ((2, 4),), ((1, 3),)), ())
        self.assertEqual(fewest_shelters(EXAMPLE, (), ((2, 2),), ()), ())

    def test_no_place(self):
        self.assertEqual(fewest_shelters(NO_HIGH, (), (), ((1, 3), (1, 4))), ())
        self.assertEqual(fewest_shelters(NO_HIGH, ((0, 0),), (), ()), ())

    def test_one_with_gauges(self):
        self.assertEqual(fewest_shelters(NO_HIGH, ((0, 0),), ((1, 2),), ((1, 4),)), ((1, 4),))
        self.assertEqual(fewest_shelters(NO_HIGH, ((0, 0),), ((1, 2), (1, 3)), ((1, 3), (1, 4))), ((1, 3),))
        # At 16 the cell (1, 2) is unsafe already, but (1, 3) can still be left.
        self.assertEqual(fewest_shelters(NO_HIGH, ((0, 2),), ((1, 3),), ((1, 4),)), ((1, 4),))
        self.assertIsNone(fewest_shelters(NO_HIGH, ((0, 2),), ((1, 2),), ((1, 3), (1, 4))))
        self.assertEqual(fewest_shelters(NO_HIGH, ((0, 2),), ((1, 2),), ((1, 2), (1, 3))), ((1, 2),))

    def test_with_no_gauge(self):
        # Nobody is warned, so each place beside the water has to be high itself.
        self.assertEqual(fewest_shelters(NO_HIGH, (), ((1, 2),), ((1, 2), (1, 3))), ((1, 2),))
        self.assertEqual(fewest_shelters(NO_HIGH, (), ((1, 4), (1, 2)), ((1, 2), (1, 3), (1, 4))), ((1, 2), (1, 4)))
        self.assertIsNone(fewest_shelters(NO_HIGH, (), ((1, 2), (1, 4)), ((1, 2), (1, 3))))

    def test_of_several_with_as_many_cells_the_first_one(self):
        candidates = ((1, 2), (1, 3), (1, 4))
        self.assertEqual(fewest_shelters(NO_HIGH, ((0, 0),), ((1, 4),), candidates), ((1, 2),))
        self.assertEqual(fewest_shelters(NO_HIGH, ((0, 0),), ((1, 4),), candidates[1:]), ((1, 3),))

    def test_several_where_fewer_do_not_suffice(self):
        chart = Chart(("11a#a11", "##a#a##"), ((0, 0), (0, 6)))
        candidates = ((0, 2), (0, 4), (1, 2), (1, 4))
        gauges = ((0, 0), (0, 6))
        self.assertEqual(fewest_shelters(chart, gauges, ((0, 2), (1, 4)), candidates), ((0, 2), (0, 4)))
        self.assertEqual(fewest_shelters(chart, gauges, ((0, 2), (1, 4)), candidates[2:]), ((1, 2), (1, 4)))
        self.assertEqual(fewest_shelters(chart, gauges, ((0, 2), (1, 2)), candidates[1:]), ((1, 2),))
        # Only (0, 0) is heard; from (0, 4) nobody is warned.
        self.assertEqual(fewest_shelters(chart, ((0, 0),), ((0, 2), (0, 4)), candidates), ((0, 2), (0, 4)))
        self.assertIsNone(fewest_shelters(chart, ((0, 0),), ((0, 2), (0, 4)), candidates[2:]))

    def test_nothing_suffices(self):
        self.assertIsNone(fewest_shelters(NO_HIGH, ((0, 0),), ((1, 2),), ()))
        self.assertIsNone(fewest_shelters(Chart(("1a#a",), ((0, 0),)), ((0, 0),), ((0, 1),), ((0, 3),)))

    def test_the_chart_that_was_passed_is_as_before(self):
        chart = Chart(("55111", "##abc", "#####"), ((0, 0),))
        self.assertEqual(fewest_shelters(chart, (), ((1, 2), (1, 4)), ((1, 2), (1, 4))), ((1, 2), (1, 4)))
        self.assertEqual(vars(chart), {"rows": ("55111", "##abc", "#####"), "sources": ((0, 0),)})
        self.assertIsNone(fewest_shelters(chart, (), ((1, 3),), ((1, 2), (1, 4))))
        self.assertEqual(vars(chart), {"rows": ("55111", "##abc", "#####"), "sources": ((0, 0),)})

    def test_like_trying_all(self):
        chance = random.Random(4)
        sizes = []
        for chart in random_charts(300, (2, 5), "1111aaab^###"):
            land = [place for place in places_of(chart) if sign_of(chart, place) in LAND]
            ground = ground_of(chart)
            water = water_of(chart)
            gauges = tuple(sorted(chance.sample(water, min(len(water), chance.randint(0, 3)))))
            candidates = tuple(sorted(chance.sample(land, min(len(land), chance.randint(0, 6)))))
            places = tuple(chance.sample(ground, min(len(ground), chance.randint(0, 3))))
            sure = [choice for choice in all_choices(candidates) if is_sure(made_high(chart, choice), gauges, places)]
            told = fewest_shelters(chart, gauges, places, candidates)
            self.assertEqual(told, sure[0] if sure else None)
            self.assertTrue(is_plain(told))
            sizes.append(len(told) if sure else None)
        for size in (0, 1, 2, None):
            self.assertGreater(sizes.count(size), 5)


if __name__ == "__main__":
    unittest.main()
