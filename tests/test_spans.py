import unittest

from holmway.spans import beside

GREATEST = 10 ** 100 - 1


class BesideTest(unittest.TestCase):
    def test_no_bridge_at_all(self):
        self.assertEqual(beside(3, []), [])

    def test_no_bridge_at_this_place(self):
        self.assertEqual(beside(3, [(1, 2), (2, 4)]), [])

    def test_one_bridge_told_either_way_round(self):
        self.assertEqual(beside(3, [(3, 8)]), [8])
        self.assertEqual(beside(8, [(3, 8)]), [3])
        self.assertEqual(beside(3, [(8, 3)]), [8])
        self.assertEqual(beside(8, [(8, 3)]), [3])

    def test_many_bridges_from_the_least_to_the_greatest(self):
        bridges = [(5, 9), (1, 5), (7, 5), (5, 3), (1, 9), (10, 5), (5, 2)]
        self.assertEqual(beside(5, bridges), [1, 2, 3, 7, 9, 10])

    def test_a_neighbour_of_a_neighbour_is_none(self):
        self.assertEqual(beside(1, [(1, 2), (2, 3), (3, 4)]), [2])

    def test_a_bridge_told_twice_the_same_way_round(self):
        self.assertEqual(beside(3, [(3, 8), (1, 3), (3, 8)]), [1, 8])
        self.assertEqual(beside(8, [(3, 8), (1, 3), (3, 8)]), [3])

    def test_a_bridge_told_both_ways_round(self):
        self.assertEqual(beside(3, [(3, 8), (8, 3), (3, 1), (8, 3)]), [1, 8])
        self.assertEqual(beside(8, [(3, 8), (8, 3), (3, 1), (8, 3)]), [3])

    def test_places_of_both_signs_and_nought(self):
        bridges = [(0, 4), (-4, 0), (0, -1), (1, 0), (-4, 4)]
        self.assertEqual(beside(0, bridges), [-4, -1, 1, 4])
        self.assertEqual(beside(4, bridges), [-4, 0])
        self.assertEqual(beside(-4, bridges), [0, 4])

    def test_places_of_a_hundred_figures(self):
        bridges = [(GREATEST, 7), (7, GREATEST - 1), (-GREATEST, 7), (7, 1 - GREATEST)]
        self.assertEqual(beside(7, bridges), [-GREATEST, 1 - GREATEST, GREATEST - 1, GREATEST])
        self.assertEqual(beside(GREATEST, bridges), [7])
        self.assertEqual(beside(GREATEST - 2, bridges), [])

    def test_somewhat_beyond_the_bounds_nothing_is_refused(self):
        far = 10 ** 130
        bridges = [(far + k, -far) for k in reversed(range(1300))]
        self.assertEqual(beside(-far, bridges), [far + k for k in range(1300)])

    def test_a_thousand_bridges(self):
        pairs = [(one, other) for one in range(100) for other in range(one)][:1000]
        self.assertEqual(beside(0, pairs), list(range(1, 46)))


class BesideKeepsNothingTest(unittest.TestCase):
    def test_the_bridges_are_as_they_were(self):
        bridges = [(8, 3), (3, 1), (3, 8), (8, 3)]
        beside(3, bridges)
        self.assertEqual(bridges, [(8, 3), (3, 1), (3, 8), (8, 3)])

    def test_who_changes_the_bridges_later_does_not_change_the_answer(self):
        bridges = [(8, 3), (3, 1)]
        answer = beside(3, bridges)
        bridges.append((3, 5))
        self.assertEqual(answer, [1, 8])
        self.assertEqual(beside(3, bridges), [1, 5, 8])

    def test_who_changes_the_answer_changes_no_later_one(self):
        bridges = [(8, 3), (3, 1)]
        beside(3, bridges).append(99)
        beside(4, bridges).append(99)
        self.assertEqual(beside(3, bridges), [1, 8])
        self.assertEqual(beside(4, bridges), [])


if __name__ == "__main__":
    unittest.main()
