import unittest

from holmway.chart import Chart
from holmway.errors import MapError, NoBridge, NoPlace, OnePlace, Stands
from holmway.ways import detours

GREATEST = 10 ** 100 - 1


class ChartsTest(unittest.TestCase):
    def check_bridges(self, chart, bridges):
        self.assertIs(type(chart.bridges), list)
        self.assertTrue(all(type(bridge) is tuple for bridge in chart.bridges))
        self.assertEqual(chart.bridges, bridges)

    def check_refused(self, chart, refusal, deed, one, other):
        before = list(chart.bridges)
        for name in (refusal, MapError, ValueError):
            with self.assertRaises(name) as caught:
                deed(one, other)
            self.assertIs(type(caught.exception), refusal, (one, other))
            self.check_bridges(chart, before)


class BuildTest(ChartsTest):
    def test_no_bridge_stands_at_first(self):
        self.check_bridges(Chart([]), [])
        self.check_bridges(Chart([3, 8]), [])

    def test_the_lesser_place_is_told_first(self):
        for one, other in ((3, 8), (8, 3)):
            chart = Chart([8, 3])
            chart.build(one, other)
            self.check_bridges(chart, [(3, 8)])

    def test_build_gives_back_nothing(self):
        self.assertIsNone(Chart([8, 3]).build(3, 8))

    def test_the_bridges_stand_in_the_order_that_detours_has(self):
        places = [-10, -1, 2, 3, 5, 9, 10, 11]
        built = [(5, 3), (10, 2), (2, 9), (-1, 5), (3, -10), (2, -1), (11, 3)]
        order = [(-10, 3), (-1, 2), (-1, 5), (2, 9), (2, 10), (3, 5), (3, 11)]
        for told in (built, built[::-1]):
            chart = Chart(places)
            for k, bridge in enumerate(told):
                chart.build(bridge[0], bridge[1])
                self.check_bridges(chart, [detour[:2] for detour in detours(places, told[: k + 1])])
            self.check_bridges(chart, order)

    def test_a_place_may_have_many_bridges(self):
        chart = Chart(list(range(100)))
        for other in range(99, 0, -1):
            chart.build(other, 0)
        self.check_bridges(chart, [(0, other) for other in range(1, 100)])

    def test_places_of_both_signs_and_a_hundred_figures(self):
        chart = Chart([GREATEST, -GREATEST, 0, GREATEST - 1])
        chart.build(GREATEST, GREATEST - 1)
        chart.build(0, -GREATEST)
        chart.build(GREATEST, -GREATEST)
        self.check_bridges(chart, [(-GREATEST, 0), (-GREATEST, GREATEST), (GREATEST - 1, GREATEST)])
        self.check_refused(chart, NoPlace, chart.build, GREATEST, GREATEST - 2)

    def test_somewhat_beyond_the_bounds_nothing_is_refused(self):
        far = 10 ** 130
        places = [far + k for k in range(130)]
        chart = Chart(places)
        pairs = [(one, other) for one in places for other in places if one < other][:1300]
        for one, other in pairs[::-1]:
            chart.build(other, one)
        self.check_bridges(chart, pairs)


class PullTest(ChartsTest):
    def test_a_bridge_is_pulled_down_told_either_way_round(self):
        for built in ((3, 8), (8, 3)):
            for pulled in ((3, 8), (8, 3)):
                chart = Chart([3, 8, 1])
                chart.build(built[0], built[1])
                chart.build(1, 8)
                chart.pull(pulled[0], pulled[1])
                self.check_bridges(chart, [(1, 8)])

    def test_pull_gives_back_nothing(self):
        chart = Chart([3, 8])
        chart.build(3, 8)
        self.assertIsNone(chart.pull(8, 3))
        self.check_bridges(chart, [])

    def test_the_other_bridges_stay_in_their_order(self):
        chart = Chart([1, 2, 3, 4])
        for one, other in ((4, 3), (2, 1), (3, 1), (4, 2)):
            chart.build(one, other)
        chart.pull(3, 1)
        self.check_bridges(chart, [(1, 2), (2, 4), (3, 4)])

    def test_a_bridge_is_built_again_behind_a_pull(self):
        chart = Chart([1, 2, 3])
        chart.build(1, 2)
        chart.build(3, 2)
        for one, other in ((1, 2), (2, 1)):
            chart.pull(2, 1)
            self.check_bridges(chart, [(2, 3)])
            chart.build(one, other)
            self.check_bridges(chart, [(1, 2), (2, 3)])


class RefusalsTest(ChartsTest):
    def setUp(self):
        self.chart = Chart([3, 1, 2])
        self.chart.build(1, 2)

    def test_no_place(self):
        for deed in (self.chart.build, self.chart.pull):
            self.check_refused(self.chart, NoPlace, deed, 9, 1)
            self.check_refused(self.chart, NoPlace, deed, 1, 9)
            self.check_refused(self.chart, NoPlace, deed, 9, 8)
            self.check_refused(self.chart, NoPlace, deed, -1, 2)
            self.check_refused(self.chart, NoPlace, deed, 0, 2)

    def test_no_place_goes_ahead_of_one_place(self):
        for deed in (self.chart.build, self.chart.pull):
            self.check_refused(self.chart, NoPlace, deed, 9, 9)
        empty = Chart([])
        for deed in (empty.build, empty.pull):
            self.check_refused(empty, NoPlace, deed, 0, 0)

    def test_one_place(self):
        for place in (1, 2, 3):
            self.check_refused(self.chart, OnePlace, self.chart.build, place, place)

    def test_one_place_goes_ahead_of_no_bridge(self):
        for place in (1, 2, 3):
            self.check_refused(self.chart, OnePlace, self.chart.pull, place, place)

    def test_stands(self):
        self.check_refused(self.chart, Stands, self.chart.build, 1, 2)
        self.check_refused(self.chart, Stands, self.chart.build, 2, 1)

    def test_no_bridge(self):
        self.check_refused(self.chart, NoBridge, self.chart.pull, 1, 3)
        self.check_refused(self.chart, NoBridge, self.chart.pull, 3, 2)

    def test_no_bridge_where_a_road_leads(self):
        self.chart.build(2, 3)
        self.check_refused(self.chart, NoBridge, self.chart.pull, 1, 3)

    def test_no_bridge_behind_a_pull(self):
        self.chart.pull(1, 2)
        self.check_refused(self.chart, NoBridge, self.chart.pull, 1, 2)
        self.check_refused(self.chart, NoBridge, self.chart.pull, 2, 1)

    def test_a_chart_goes_on_behind_a_refusal(self):
        self.check_refused(self.chart, Stands, self.chart.build, 2, 1)
        self.chart.build(3, 1)
        self.check_refused(self.chart, NoBridge, self.chart.pull, 3, 2)
        self.chart.pull(2, 1)
        self.check_bridges(self.chart, [(1, 3)])


class ChartKeepsNothingTest(ChartsTest):
    def test_a_place_that_is_added_to_the_list_later_is_none(self):
        places = [1, 2]
        chart = Chart(places)
        places.append(3)
        self.check_refused(chart, NoPlace, chart.build, 1, 3)
        self.check_refused(chart, NoPlace, chart.pull, 3, 3)

    def test_a_place_that_is_taken_from_the_list_later_stays(self):
        places = [1, 2]
        chart = Chart(places)
        places.clear()
        chart.build(1, 2)
        self.check_bridges(chart, [(1, 2)])
        chart.pull(2, 1)
        self.check_bridges(chart, [])

    def test_the_list_of_places_is_as_it_was(self):
        places = [3, 1, 2]
        chart = Chart(places)
        chart.build(3, 1)
        chart.build(2, 1)
        chart.pull(3, 1)
        self.assertEqual(places, [3, 1, 2])

    def test_two_charts_of_one_list_have_nothing_in_common(self):
        places = [1, 2, 3]
        left = Chart(places)
        right = Chart(places)
        left.build(1, 2)
        self.check_bridges(right, [])
        right.build(2, 3)
        right.build(1, 2)
        left.pull(1, 2)
        self.check_bridges(left, [])
        self.check_bridges(right, [(1, 2), (2, 3)])
        self.check_refused(left, NoBridge, left.pull, 2, 3)
        self.check_refused(right, Stands, right.build, 2, 3)

    def test_two_charts_of_different_places(self):
        left = Chart([1, 2])
        right = Chart([2, 3])
        left.build(1, 2)
        right.build(2, 3)
        self.check_refused(left, NoPlace, left.build, 2, 3)
        self.check_refused(right, NoPlace, right.build, 1, 2)

    def test_a_new_chart_knows_nothing_of_an_old_one(self):
        Chart([1, 2]).build(1, 2)
        self.check_bridges(Chart([1, 2]), [])


if __name__ == "__main__":
    unittest.main()
