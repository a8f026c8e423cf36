import copy
import itertools
import unittest

from holmway.errors import MapError, NoPlace
from holmway.signs import is_road, is_shut
from holmway.ways import detours, groups, way

from judges import judge_detours, judge_groups, judge_way, maps_of

GREATEST = 10 ** 100 - 1
RING = [(1, 2), (3, 2), (3, 4), (1, 4)]


def told_often(bridges):
    """The same bridges, each told four times, both ways round."""
    turned = [(other, one) for one, other in bridges]
    return turned + bridges + bridges[::-1] + turned


def wide_map(size, count, sign=1):
    """Many places and bridges, spread by plain arithmetic, in no order."""
    places = [sign * (k * 37 % size) for k in range(size)]
    pairs = [(one, other) for one in places for other in places if one != other]
    step = 7919
    return places, [pairs[k * step % len(pairs)] for k in range(count)]


class WaysTest(unittest.TestCase):
    def word_of(self, places, bridges, one, other):
        answer = way(places, bridges, one, other)
        word = judge_way(self, answer, places, bridges, one, other)
        self.assertIs(is_road(answer[1], bridges, one, other), word == "road")
        self.assertIs(is_shut(answer[1], bridges, one, other), word == "wall")
        return word

    def check_road(self, places, bridges, one, other):
        self.assertEqual(self.word_of(places, bridges, one, other), "road")
        self.assertEqual(self.word_of(places, bridges, other, one), "road")

    def check_wall(self, places, bridges, one, other):
        self.assertEqual(self.word_of(places, bridges, one, other), "wall")
        self.assertEqual(self.word_of(places, bridges, other, one), "wall")


class WayTest(WaysTest):
    def test_a_place_to_itself(self):
        self.assertEqual(way([4], [], 4, 4), ("road", [4]))
        self.assertEqual(way([0, 4], [], 0, 0), ("road", [0]))
        self.assertEqual(way([4, 1, 2, 3], RING, 3, 3), ("road", [3]))
        self.assertEqual(way([4, 1, 2, 3], [(1, 2)], 4, 4), ("road", [4]))

    def test_neighbours_told_either_way_round(self):
        for bridges in ([(3, 8)], [(8, 3)], [(3, 8), (8, 3), (3, 8)]):
            self.assertEqual(way([8, 3], bridges, 3, 8), ("road", [3, 8]))
            self.assertEqual(way([8, 3], bridges, 8, 3), ("road", [8, 3]))

    def test_the_only_road(self):
        places = [5, 1, 0, -3, 7]
        bridges = [(0, 5), (7, -3), (0, -3), (1, -3)]
        self.assertEqual(way(places, bridges, 7, 5), ("road", [7, -3, 0, 5]))
        self.assertEqual(way(places, bridges, 5, 7), ("road", [5, 0, -3, 7]))
        self.assertEqual(way(places, bridges, 1, 5), ("road", [1, -3, 0, 5]))

    def test_a_road_of_a_hundred_places_in_a_row(self):
        row = [k * 37 % 100 for k in range(100)]
        bridges = [(row[k], row[k - 1]) if k % 3 else (row[k - 1], row[k]) for k in range(1, 100)]
        places = sorted(row)
        for told in (bridges, bridges[::-1], bridges[50:] + bridges[:50], told_often(bridges)):
            self.assertEqual(way(places, told, row[0], row[99]), ("road", row))
            self.assertEqual(way(places, told, row[99], row[0]), ("road", row[::-1]))
            self.assertEqual(way(places, told, row[20], row[70]), ("road", row[20:71]))

    def test_a_wall_across_a_hundred_places_in_a_row(self):
        places = list(range(100))
        bridges = [(k, k + 1) for k in places[:-1] if k != 60]
        self.assertEqual(way(places, bridges, 0, 99), ("wall", list(range(61))))
        self.assertEqual(way(places, bridges, 99, 0), ("wall", list(range(61, 100))))

    def test_a_ring(self):
        for one, other in itertools.product([1, 2, 3, 4], repeat=2):
            self.check_road([4, 2, 1, 3], RING, one, other)

    def test_rings_that_hang_together(self):
        bridges = RING + [(4, 5), (5, 6), (6, 7), (7, 4), (7, 9), (9, 8), (8, 7)]
        places = [9, 8, 7, 6, 5, 4, 3, 2, 1, 10]
        for one, other in itertools.product(range(1, 10), repeat=2):
            self.check_road(places, bridges, one, other)
        for one in range(1, 10):
            self.check_wall(places, bridges, one, 10)

    def test_rings_that_no_road_joins(self):
        bridges = RING + [(-5, 6), (6, -7), (-7, -5)]
        places = [6, 1, -5, 3, -7, 2, 4]
        for one, other in itertools.product([1, 2, 3, 4], [-7, -5, 6]):
            self.check_wall(places, bridges, one, other)

    def test_a_wall_without_any_bridge(self):
        self.check_wall([2, 1], [], 1, 2)
        self.check_wall([2, -1, 0], [], 0, -1)

    def test_a_wall_with_bridges_on_the_far_side_alone(self):
        self.check_wall([3, 2, 1], [(3, 2)], 1, 2)

    def test_a_wall_goes_from_the_least_to_the_greatest(self):
        bridges = [(5, -9), (5, 12), (12, -10), (3, 5), (4, 6)]
        places = [12, 6, 5, 4, 3, -9, -10]
        word, row = way(places, bridges, 5, 6)
        self.assertEqual((word, sorted(row)), ("wall", row))
        self.check_wall(places, bridges, 5, 6)

    def test_bridges_told_more_than_once(self):
        bridges = told_often(RING + [(6, 5)])
        self.check_road([1, 2, 3, 4, 5, 6], bridges, 1, 3)
        self.check_road([1, 2, 3, 4, 5, 6], bridges, 5, 6)
        self.check_wall([1, 2, 3, 4, 5, 6], bridges, 3, 6)

    def test_places_of_both_signs_and_a_hundred_figures(self):
        places = [GREATEST, 0, -GREATEST, GREATEST - 1, 1 - GREATEST]
        bridges = [(GREATEST, -GREATEST), (0, GREATEST)]
        self.assertEqual(way(places, bridges, -GREATEST, 0), ("road", [-GREATEST, GREATEST, 0]))
        self.check_wall(places, bridges, GREATEST, GREATEST - 1)
        self.check_wall(places, bridges, -GREATEST, 1 - GREATEST)

    def test_every_map_of_five_places(self):
        places = [3, -2, 0, 7, 5]
        for bridges in maps_of(places):
            for one, other in itertools.product(places, repeat=2):
                self.word_of(places, bridges, one, other)

    def test_a_hundred_places_and_a_thousand_bridges(self):
        places, bridges = wide_map(100, 1000)
        for one in places[:10]:
            for other in places:
                self.word_of(places, bridges, one, other)

    def test_somewhat_beyond_the_bounds_nothing_is_refused(self):
        far = 10 ** 130
        row = [far + k for k in range(130)]
        bridges = [(k + 1, k) for k in row[:-1]] * 10
        self.assertEqual(way(row + [-far], bridges, row[0], row[-1]), ("road", row))
        self.check_wall(row + [-far], bridges, row[70], -far)


class NoPlaceTest(unittest.TestCase):
    def check_refused(self, places, bridges, one, other):
        for name in (NoPlace, MapError, ValueError):
            with self.assertRaises(name) as caught:
                way(places, bridges, one, other)
            self.assertIs(type(caught.exception), NoPlace)

    def test_the_one_is_no_place(self):
        self.check_refused([1, 2], [(1, 2)], 3, 2)

    def test_the_other_is_no_place(self):
        self.check_refused([1, 2], [(1, 2)], 1, 3)

    def test_both_are_no_places(self):
        self.check_refused([1, 2], [(1, 2)], 3, 4)
        self.check_refused([1, 2], [(1, 2)], -1, -2)

    def test_both_are_the_same_number_that_is_no_place(self):
        self.check_refused([1, 2], [(1, 2)], 3, 3)

    def test_a_map_without_places(self):
        self.check_refused([], [], 0, 0)
        self.check_refused([], [], 1, 2)

    def test_a_place_without_a_bridge_is_a_place(self):
        self.assertEqual(way([1, 2, 3], [(1, 2)], 3, 1)[0], "wall")


class GroupsTest(WaysTest):
    def check_groups(self, places, bridges, members):
        answer = groups(places, bridges)
        judge_groups(self, answer, places, bridges)
        self.assertEqual([sorted(group) for group in answer], members)

    def test_no_places(self):
        self.assertEqual(groups([], []), [])

    def test_places_without_bridges(self):
        self.assertEqual(groups([4], []), [[4]])
        self.assertEqual(groups([4, -1, 0, 2], []), [[-1], [0], [2], [4]])

    def test_one_group(self):
        self.assertEqual(groups([8, 3], [(8, 3)]), [[3, 8]])
        self.assertEqual(groups([1, 2, 3], [(3, 1), (2, 3)]), [[1, 3, 2]])
        self.check_groups([9, 5, 2, 7], [(9, 2), (5, 9), (7, 9)], [[2, 5, 7, 9]])

    def test_several_groups_by_their_first_places(self):
        bridges = [(9, 4), (1, 8), (5, 7), (8, 6), (2, 9)]
        self.check_groups([9, 8, 7, 6, 5, 4, 3, 2, 1], bridges, [[1, 6, 8], [2, 4, 9], [3], [5, 7]])

    def test_each_further_place_has_a_neighbour_ahead_of_it(self):
        self.assertEqual(groups([1, 2, 3, 4, 5], [(1, 5), (5, 2), (2, 4), (4, 3)]), [[1, 5, 2, 4, 3]])

    def test_a_ring(self):
        self.check_groups([4, 2, 3, 1], RING, [[1, 2, 3, 4]])
        self.check_groups([4, 0, 2, 3, 1, 9], RING, [[0], [1, 2, 3, 4], [9]])

    def test_bridges_told_twice_either_way_round(self):
        bridges = told_often(RING + [(6, 5)])
        self.check_groups([6, 5, 4, 3, 2, 1, 0], bridges, [[0], [1, 2, 3, 4], [5, 6]])

    def test_places_of_both_signs_and_of_many_figures(self):
        places = [0, GREATEST, -GREATEST, 1 - GREATEST, 7, GREATEST - 1, -7]
        bridges = [(GREATEST, 1 - GREATEST), (GREATEST - 1, -7), (0, GREATEST)]
        members = [[-GREATEST], [1 - GREATEST, 0, GREATEST], [-7, GREATEST - 1], [7]]
        self.check_groups(places, bridges, members)

    def test_every_map_of_five_places(self):
        places = [3, -2, 0, 7, 5]
        for bridges in maps_of(places):
            judge_groups(self, groups(places, bridges), places, bridges)

    def test_a_hundred_places(self):
        for count in (20, 60, 100, 1000):
            for sign in (1, -1):
                places, bridges = wide_map(100, count, sign)
                judge_groups(self, groups(places, bridges), places, bridges)

    def test_a_hundred_places_in_a_row(self):
        row = [0] + [k * 37 % 100 for k in range(1, 100)]
        bridges = [(row[k], row[k - 1]) for k in range(99, 0, -1)]
        self.assertEqual(groups(sorted(row), bridges), [row])

    def test_somewhat_beyond_the_bounds_nothing_is_refused(self):
        far = 10 ** 130
        row = [far + k for k in range(130)]
        bridges = [(k + 1, k) for k in row[:-1]] * 10
        self.assertEqual(groups(row[::-1] + [-far], bridges), [[-far], row])


class DetoursTest(WaysTest):
    def check_detours(self, places, bridges, words):
        answer = detours(places, bridges)
        judge_detours(self, answer, places, bridges)
        self.assertEqual([detour[2] for detour in answer], words)

    def test_no_bridges(self):
        self.assertEqual(detours([], []), [])
        self.assertEqual(detours([2, 1], []), [])

    def test_a_bridge_without_which_there_is_no_road(self):
        self.assertEqual(detours([8, 3], [(8, 3)]), [(3, 8, "wall", [3])])
        self.assertEqual(detours([8, 3], [(3, 8)]), [(3, 8, "wall", [3])])
        self.check_detours([4, 3, 2, 1], [(4, 3), (1, 2), (3, 2)], ["wall", "wall", "wall"])

    def test_a_ring(self):
        answer = [
            (1, 2, "road", [1, 4, 3, 2]),
            (1, 4, "road", [1, 2, 3, 4]),
            (2, 3, "road", [2, 1, 4, 3]),
            (3, 4, "road", [3, 2, 1, 4]),
        ]
        self.assertEqual(detours([1, 2, 3, 4], RING), answer)
        self.assertEqual(detours([4, 3, 2, 1], [(two, one) for one, two in RING[::-1]]), answer)

    def test_two_rings_and_the_bridge_between_them(self):
        bridges = RING + [(4, 5), (5, 6), (6, 7), (7, 5)]
        words = ["road", "road", "road", "road", "wall", "road", "road", "road"]
        self.check_detours([7, 6, 5, 4, 3, 2, 1], bridges, words)

    def test_a_bridge_told_twice_either_way_round(self):
        for bridges in ([(3, 8), (3, 8)], [(3, 8), (8, 3)], [(8, 3), (3, 8)], [(8, 3), (8, 3)]):
            self.assertEqual(detours([8, 3], bridges), [(3, 8, "wall", [3])])

    def test_a_ring_told_often(self):
        self.assertEqual(detours([1, 2, 3, 4], told_often(RING)), detours([1, 2, 3, 4], RING))

    def test_the_order_and_the_lesser_place_first(self):
        bridges = [(5, 3), (10, 2), (2, 9), (-1, 5), (3, -10), (2, -1), (11, 3)]
        places = [-10, -1, 2, 3, 5, 9, 10, 11]
        order = [(-10, 3), (-1, 2), (-1, 5), (2, 9), (2, 10), (3, 5), (3, 11)]
        for told in (bridges, bridges[::-1], told_often(bridges)):
            self.assertEqual([detour[:2] for detour in detours(places, told)], order)
            self.check_detours(places, told, ["wall"] * 7)

    def test_places_of_both_signs_and_of_many_figures(self):
        bridges = [(GREATEST, -GREATEST), (0, GREATEST), (GREATEST - 1, GREATEST), (-GREATEST, 0)]
        places = [0, GREATEST, GREATEST - 1, -GREATEST]
        self.check_detours(places, bridges, ["road", "road", "road", "wall"])

    def test_every_map_of_four_places(self):
        places = [3, -2, 0, 7]
        for bridges in maps_of(places):
            judge_detours(self, detours(places, bridges), places, bridges)
            judge_detours(self, detours(places, told_often(bridges)), places, bridges)

    def test_a_hundred_places(self):
        for count in (60, 110):
            places, bridges = wide_map(100, count)
            judge_detours(self, detours(places, bridges), places, bridges)

    def test_a_thousand_bridges(self):
        places, bridges = wide_map(100, 1000)
        judge_detours(self, detours(places, bridges), places, bridges)

    def test_a_ring_somewhat_beyond_the_bounds_is_not_refused(self):
        far = 10 ** 130
        row = [far + k for k in range(130)]
        bridges = [(row[k - 1], row[k]) for k in range(130)] * 10
        self.check_detours(row + [-far], bridges, ["road"] * 130)


class WaysKeepNothingTest(unittest.TestCase):
    def test_places_and_bridges_are_as_they_were(self):
        calls = (
            lambda places, bridges: way(places, bridges, 8, 1),
            lambda places, bridges: way(places, bridges, 8, 5),
            lambda places, bridges: way(places, bridges, 8, 8),
            groups,
            detours,
        )
        for call in calls:
            places = [8, 1, 5, 3]
            bridges = [(8, 3), (3, 1), (3, 8), (8, 3)]
            call(places, bridges)
            self.assertEqual(places, [8, 1, 5, 3])
            self.assertEqual(bridges, [(8, 3), (3, 1), (3, 8), (8, 3)])

    def test_they_are_as_they_were_behind_a_refusal(self):
        places = [8, 1]
        bridges = [(8, 1), (1, 8)]
        with self.assertRaises(NoPlace):
            way(places, bridges, 8, 2)
        self.assertEqual((places, bridges), ([8, 1], [(8, 1), (1, 8)]))

    def test_a_later_change_is_seen_by_the_next_call_alone(self):
        places = [1, 2, 3]
        bridges = [(1, 2)]
        first = (way(places, bridges, 1, 3), groups(places, bridges), detours(places, bridges))
        told = copy.deepcopy(first)
        places.append(4)
        bridges.append((2, 3))
        self.assertEqual(first, told)
        self.assertEqual(way(places, bridges, 1, 3), ("road", [1, 2, 3]))
        self.assertEqual(groups(places, bridges), [[1, 2, 3], [4]])
        self.assertEqual(len(detours(places, bridges)), 2)

    def test_who_changes_an_answer_changes_nothing_else(self):
        places = [1, 2, 3]
        bridges = [(1, 2)]
        for one, other in itertools.product(places, repeat=2):
            first = way(places, bridges, one, other)
            kept = list(first[1])
            first[1].append(99)
            self.assertEqual(way(places, bridges, one, other)[1], kept)
        answer = groups(places, bridges)
        answer[1].append(99)
        self.assertEqual(answer[0], [1, 2])
        self.assertEqual(groups(places, bridges), [[1, 2], [3]])
        detours(places, bridges)[0][3].append(99)
        judge_detours(self, detours(places, bridges), places, bridges)
        self.assertEqual((places, bridges), ([1, 2, 3], [(1, 2)]))


if __name__ == "__main__":
    unittest.main()
