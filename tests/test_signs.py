import itertools
import unittest

from holmway.signs import is_road, is_shut

from judges import ends_of, is_road_by_words, is_wall_by_words, maps_of

GREATEST = 10 ** 100 - 1
CHAIN = [(1, 2), (3, 2), (3, 4), (5, 4)]


class SignsTest(unittest.TestCase):
    def holds(self, answer):
        self.assertIs(answer, True)

    def fails(self, answer):
        self.assertIs(answer, False)


class RoadTest(SignsTest):
    def test_a_place_to_itself_is_that_place_alone(self):
        self.holds(is_road([4], [], 4, 4))
        self.holds(is_road([4], CHAIN, 4, 4))
        self.holds(is_road([0], [], 0, 0))

    def test_two_places_over_a_bridge_told_either_way_round(self):
        self.holds(is_road([1, 2], [(1, 2)], 1, 2))
        self.holds(is_road([1, 2], [(2, 1)], 1, 2))
        self.holds(is_road([2, 1], [(1, 2)], 2, 1))
        self.holds(is_road([2, 1], [(2, 1)], 2, 1))

    def test_many_places_in_any_order_of_numbers(self):
        self.holds(is_road([1, 2, 3, 4, 5], CHAIN, 1, 5))
        self.holds(is_road([5, 4, 3, 2, 1], CHAIN, 5, 1))
        self.holds(is_road([7, -3, 0, 5], [(0, 5), (7, -3), (0, -3)], 7, 5))

    def test_a_bridge_told_more_than_once_is_one_bridge(self):
        twice = CHAIN + [(2, 1), (1, 2)]
        self.holds(is_road([1, 2, 3], twice, 1, 3))
        self.fails(is_road([1, 2, 1, 2, 3], twice, 1, 3))

    def test_a_road_need_not_be_the_shortest(self):
        self.holds(is_road([1, 2, 3, 4], CHAIN + [(1, 4)], 1, 4))
        self.holds(is_road([1, 4], CHAIN + [(1, 4)], 1, 4))

    def test_the_empty_list_is_no_road(self):
        self.fails(is_road([], [], 1, 1))
        self.fails(is_road([], CHAIN, 1, 1))
        self.fails(is_road([], CHAIN, 1, 2))

    def test_a_wrong_beginning(self):
        self.fails(is_road([2, 3, 4], CHAIN, 1, 4))
        self.fails(is_road([4], CHAIN, 1, 4))

    def test_a_wrong_end(self):
        self.fails(is_road([1, 2, 3], CHAIN, 1, 4))
        self.fails(is_road([1], CHAIN, 1, 4))

    def test_one_place_alone_is_no_road_between_two(self):
        self.fails(is_road([3], CHAIN, 2, 4))

    def test_a_place_twice(self):
        self.fails(is_road([1, 2, 3, 2, 3, 4], CHAIN, 1, 4))
        self.fails(is_road([1, 2, 1], CHAIN, 1, 1))
        self.fails(is_road([1, 1], CHAIN, 1, 1))
        self.fails(is_road([1, 2, 3, 1], [(1, 2), (2, 3), (3, 1)], 1, 1))
        self.fails(is_road([1, 2, 3, 4, 2, 5], CHAIN + [(2, 4), (2, 5)], 1, 5))

    def test_a_step_without_a_bridge(self):
        self.fails(is_road([1, 3, 4], CHAIN, 1, 4))
        self.fails(is_road([1, 2, 4], CHAIN, 1, 4))
        self.fails(is_road([1, 2, 3, 5, 4], CHAIN, 1, 4))
        self.fails(is_road([1, 2], [], 1, 2))

    def test_a_place_that_no_bridge_touches(self):
        self.fails(is_road([1, 9, 2], CHAIN, 1, 2))

    def test_a_row_turned_about(self):
        self.fails(is_road([4, 3, 2, 1], CHAIN, 1, 4))
        self.fails(is_road([2, 1], CHAIN, 1, 2))

    def test_places_of_a_hundred_figures(self):
        bridges = [(GREATEST, -GREATEST), (GREATEST - 1, GREATEST)]
        self.holds(is_road([GREATEST - 1, GREATEST, -GREATEST], bridges, GREATEST - 1, -GREATEST))
        self.fails(is_road([GREATEST - 1, -GREATEST], bridges, GREATEST - 1, -GREATEST))
        self.fails(is_road([GREATEST, -GREATEST], bridges, GREATEST - 1, -GREATEST))
        self.fails(is_road([GREATEST - 1, GREATEST], bridges, GREATEST - 1, GREATEST + 1))

    def test_somewhat_beyond_the_bounds_nothing_is_refused(self):
        far = 10 ** 130
        row = [far + k for k in range(130)]
        bridges = [(k + 1, k) for k in row[:-1]] * 10
        self.holds(is_road(row, bridges, row[0], row[-1]))
        self.fails(is_road(row, bridges[:100], row[0], row[-1]))


class WallTest(SignsTest):
    def test_a_wall_of_one_place(self):
        self.holds(is_shut([1], [], 1, 2))
        self.holds(is_shut([1], [(2, 3)], 1, 2))

    def test_a_wall_of_many_places(self):
        self.holds(is_shut([1, 2, 3, 4, 5], CHAIN, 1, 6))
        self.holds(is_shut([1, 2, 3, 4, 5], CHAIN + [(7, 6)], 4, 6))
        self.holds(is_shut([-5, -1, 0, 3], [(3, -1), (-5, 0), (2, 1)], 0, 2))

    def test_a_wall_with_a_place_that_no_bridge_touches(self):
        self.holds(is_shut([1, 2, 3, 4, 5, 9], CHAIN, 1, 6))
        self.holds(is_shut([-9, 1], [(2, 3)], 1, 2))

    def test_a_wall_with_a_group_that_the_one_is_not_in(self):
        self.holds(is_shut([1, 2, 7, 8], [(1, 2), (8, 7), (3, 4)], 2, 3))

    def test_the_empty_list_is_no_wall(self):
        self.fails(is_shut([], [], 1, 2))
        self.fails(is_shut([], CHAIN, 1, 6))
        self.fails(is_shut([], [], 1, 1))

    def test_a_wrong_order(self):
        self.fails(is_shut([2, 1], [(1, 2)], 1, 3))
        self.fails(is_shut([5, 4, 3, 2, 1], CHAIN, 1, 6))
        self.fails(is_shut([1, 2, 4, 3, 5], CHAIN, 1, 6))
        self.fails(is_shut([1, -2], [], 1, 6))

    def test_a_place_twice(self):
        self.fails(is_shut([1, 1], [], 1, 2))
        self.fails(is_shut([1, 2, 2], [(1, 2)], 1, 3))
        self.fails(is_shut([1, 2, 1], [(1, 2)], 1, 3))

    def test_a_row_without_the_one(self):
        self.fails(is_shut([2, 3], [(2, 3)], 1, 4))

    def test_a_row_with_the_other(self):
        self.fails(is_shut([1, 4], [], 1, 4))
        self.fails(is_shut([1, 2], [(1, 2)], 1, 2))

    def test_a_row_with_the_other_in_the_place_of_the_one(self):
        self.fails(is_shut([4], [], 1, 4))

    def test_no_wall_between_a_place_and_itself(self):
        self.fails(is_shut([1], [], 1, 1))
        self.fails(is_shut([2], [], 1, 1))
        self.fails(is_shut([1, 2], [(1, 2)], 1, 1))

    def test_a_bridge_out_of_the_row_told_either_way_round(self):
        self.fails(is_shut([1], [(1, 3)], 1, 2))
        self.fails(is_shut([1], [(3, 1)], 1, 2))
        self.fails(is_shut([1], [(1, 2)], 1, 2))
        self.fails(is_shut([1], [(2, 1)], 1, 2))

    def test_any_place_of_the_row_may_have_the_bridge_out(self):
        self.fails(is_shut([1, 2, 8], [(1, 2), (8, 3)], 1, 4))
        self.fails(is_shut([1, 2, 8], [(1, 2), (3, 8)], 1, 4))
        self.fails(is_shut([1, 2], [(5, 2), (1, 2)], 1, 4))

    def test_bridges_told_more_than_once(self):
        self.holds(is_shut([1, 2], [(1, 2), (2, 1), (1, 2), (3, 4), (4, 3)], 1, 3))
        self.fails(is_shut([1, 2], [(1, 2), (2, 3), (3, 2)], 1, 3))

    def test_places_of_a_hundred_figures(self):
        bridges = [(GREATEST, -GREATEST)]
        self.holds(is_shut([-GREATEST, GREATEST], bridges, GREATEST, GREATEST - 1))
        self.fails(is_shut([GREATEST, -GREATEST], bridges, GREATEST, GREATEST - 1))
        self.fails(is_shut([GREATEST], bridges, GREATEST, GREATEST - 1))
        self.fails(is_shut([GREATEST - 1, GREATEST], [], GREATEST, GREATEST - 1))

    def test_somewhat_beyond_the_bounds_nothing_is_refused(self):
        far = 10 ** 130
        row = [far + k for k in range(130)]
        bridges = [(k + 1, k) for k in row[:-1]] * 10
        self.holds(is_shut(row, bridges, row[0], -far))
        self.fails(is_shut(row, bridges + [(-far, row[70])], row[0], -far))


class SignsKeepNothingTest(SignsTest):
    def check_untouched(self, sign, row):
        bridges = [(8, 3), (1, 3), (3, 8), (8, 3)]
        told = list(row)
        sign(told, bridges, 8, 1)
        self.assertEqual(told, row)
        self.assertEqual(bridges, [(8, 3), (1, 3), (3, 8), (8, 3)])

    def test_row_and_bridges_are_as_they_were(self):
        for sign in (is_road, is_shut):
            for row in ([], [8, 3, 1], [8, 1, 3], [3, 8], [8, 8, 3], [8, 3, 8, 1]):
                self.check_untouched(sign, row)

    def test_a_later_change_is_seen_by_the_next_call(self):
        row = [1, 2]
        bridges = [(1, 2)]
        self.holds(is_road(row, bridges, 1, 2))
        self.holds(is_shut(row, bridges, 1, 3))
        bridges.append((2, 3))
        self.fails(is_shut(row, bridges, 1, 3))
        row.append(3)
        self.holds(is_road(row, bridges, 1, 3))
        bridges.clear()
        self.fails(is_road(row, bridges, 1, 3))


class EverySmallMapTest(unittest.TestCase):
    def test_every_row_is_judged_by_the_words_of_the_document(self):
        places = [-2, 0, 1]
        rows = [list(row) for size in range(5) for row in itertools.product(places, repeat=size)]
        for bridges in maps_of(places):
            joined = ends_of(bridges)
            for one, other in itertools.product(places, repeat=2):
                for row in rows:
                    told = (row, bridges, one, other)
                    self.assertIs(is_road(*told), is_road_by_words(row, joined, one, other), told)
                    self.assertIs(is_shut(*told), is_wall_by_words(row, joined, one, other), told)

    def test_there_is_either_a_road_or_a_wall_and_never_both(self):
        places = [-1, 0, 2, 5]
        sizes = range(1, len(places) + 1)
        roads = [list(row) for size in sizes for row in itertools.permutations(places, size)]
        walls = [list(row) for size in sizes for row in itertools.combinations(places, size)]
        for bridges in maps_of(places):
            for one, other in itertools.product(places, repeat=2):
                road = any(is_road(row, bridges, one, other) for row in roads)
                wall = any(is_shut(row, bridges, one, other) for row in walls)
                self.assertNotEqual(road, wall, (bridges, one, other))


if __name__ == "__main__":
    unittest.main()
