import itertools
import unittest

from holmway.day import answers, standing

from judges import judge_way

GREATEST = 10 ** 100 - 1


def order_of(joined):
    return sorted((min(ends), max(ends)) for ends in joined)


def refusal_by_words(places, joined, deed):
    word, one, other = deed
    if one not in places or other not in places:
        return "no place"
    if word in ("build", "pull") and one == other:
        return "one place"
    if word == "build" and {one, other} in joined:
        return "stands"
    if word == "pull" and {one, other} not in joined:
        return "no bridge"
    return None


class DaysTest(unittest.TestCase):
    def check_answer(self, answer, places, joined, deed):
        """Judges one answer by the words of the document, and gives back the bridges that stand behind the deed."""
        word, one, other = deed
        refusal = refusal_by_words(places, joined, deed)
        if refusal is not None:
            self.assertEqual(answer, refusal, deed)
            return joined
        if word == "way":
            judge_way(self, answer, places, order_of(joined), one, other)
            return joined
        self.assertEqual(answer, {"build": "built", "pull": "pulled"}[word], deed)
        return joined ^ {frozenset((one, other))}

    def check_day(self, places, deeds):
        told = answers(places, deeds)
        self.assertIs(type(told), list)
        self.assertEqual(len(told), len(deeds))
        joined = frozenset()
        for answer, deed in zip(told, deeds):
            joined = self.check_answer(answer, places, joined, deed)
        left = standing(places, deeds)
        self.assertIs(type(left), list)
        self.assertEqual(left, order_of(joined))
        return told


class AnswersTest(DaysTest):
    def test_a_day_without_deeds(self):
        self.assertEqual(answers([], []), [])
        self.assertEqual(answers([1, 2], []), [])
        self.assertEqual(standing([], []), [])
        self.assertEqual(standing([1, 2], []), [])

    def test_built(self):
        self.assertEqual(answers([1, 2], [("build", 2, 1)]), ["built"])
        self.assertEqual(standing([1, 2], [("build", 2, 1)]), [(1, 2)])

    def test_pulled_told_either_way_round(self):
        for one, other in ((1, 2), (2, 1)):
            deeds = [("build", 2, 1), ("pull", one, other)]
            self.assertEqual(answers([1, 2], deeds), ["built", "pulled"])
            self.assertEqual(standing([1, 2], deeds), [])

    def test_built_again_behind_a_pull(self):
        deeds = [("build", 2, 1), ("pull", 1, 2), ("build", 1, 2), ("build", 2, 1), ("pull", 2, 1), ("pull", 2, 1)]
        told = ["built", "pulled", "built", "stands", "pulled", "no bridge"]
        self.assertEqual(answers([1, 2], deeds), told)
        self.assertEqual(standing([1, 2], deeds[:4]), [(1, 2)])
        self.assertEqual(standing([1, 2], deeds), [])

    def test_a_way_ahead_of_and_behind_a_build_and_a_pull(self):
        deeds = [
            ("way", 1, 3),
            ("build", 1, 2),
            ("way", 1, 3),
            ("build", 3, 2),
            ("way", 1, 3),
            ("way", 3, 1),
            ("pull", 2, 1),
            ("way", 1, 3),
            ("way", 3, 1),
            ("way", 2, 3),
        ]
        told = self.check_day([1, 2, 3], deeds)
        self.assertEqual(told[0][0], "wall")
        self.assertEqual(told[2], ("wall", [1, 2]))
        self.assertEqual(told[4], ("road", [1, 2, 3]))
        self.assertEqual(told[5], ("road", [3, 2, 1]))
        self.assertEqual(told[7:], [("wall", [1]), ("wall", [2, 3]), ("road", [2, 3])])

    def test_a_way_changes_nothing(self):
        deeds = [("build", 1, 2), ("way", 1, 2), ("way", 2, 3), ("way", 9, 1), ("way", 3, 3)]
        self.check_day([1, 2, 3], deeds)
        self.assertEqual(standing([1, 2, 3], deeds), [(1, 2)])

    def test_a_way_from_a_place_to_itself(self):
        self.assertEqual(answers([4, 1], [("way", 4, 4)]), [("road", [4])])
        self.assertEqual(answers([4, 1], [("build", 1, 4), ("way", 4, 4)]), ["built", ("road", [4])])

    def test_standing_has_the_order_and_the_lesser_place_first(self):
        built = [(5, 3), (10, 2), (2, 9), (-1, 5), (3, -10), (2, -1), (11, 3)]
        order = [(-10, 3), (-1, 2), (-1, 5), (2, 9), (2, 10), (3, 5), (3, 11)]
        places = [-10, -1, 2, 3, 5, 9, 10, 11]
        for told in (built, built[::-1]):
            left = standing(places, [("build", one, other) for one, other in told])
            self.assertEqual(left, order)
            self.assertTrue(all(type(bridge) is tuple for bridge in left))

    def test_places_of_both_signs_and_a_hundred_figures(self):
        deeds = [
            ("build", GREATEST, -GREATEST),
            ("build", 0, GREATEST),
            ("way", -GREATEST, 0),
            ("way", 0, GREATEST - 1),
            ("build", GREATEST - 2, 0),
            ("pull", -GREATEST, GREATEST),
            ("way", -GREATEST, 0),
        ]
        told = self.check_day([GREATEST, 0, -GREATEST, GREATEST - 1], deeds)
        self.assertEqual(told[2], ("road", [-GREATEST, GREATEST, 0]))
        self.assertEqual(told[4], "no place")


class RefusedDeedsTest(DaysTest):
    def check_refused(self, text, deed):
        """The deed stands between others, so a change that it made would be seen."""
        ahead = [("build", 1, 2), ("build", 4, 3)]
        behind = [("way", one, other) for one, other in itertools.product([1, 2, 3, 4, 5], repeat=2)]
        told = self.check_day([5, 4, 3, 2, 1], ahead + [deed] + behind)
        self.assertEqual(told[2], text)
        self.assertEqual(standing([5, 4, 3, 2, 1], ahead + [deed]), [(1, 2), (3, 4)])

    def test_no_place(self):
        for word in ("build", "pull", "way"):
            for one, other in ((9, 1), (1, 9), (9, 8), (-1, 2), (0, 3), (2, -1)):
                self.check_refused("no place", (word, one, other))

    def test_no_place_goes_ahead_of_one_place(self):
        for word in ("build", "pull", "way"):
            self.check_refused("no place", (word, 9, 9))
            self.assertEqual(answers([], [(word, 0, 0)]), ["no place"])

    def test_one_place(self):
        self.check_refused("one place", ("build", 1, 1))
        self.check_refused("one place", ("build", 5, 5))

    def test_one_place_goes_ahead_of_no_bridge(self):
        self.check_refused("one place", ("pull", 1, 1))
        self.check_refused("one place", ("pull", 5, 5))

    def test_stands(self):
        for one, other in ((1, 2), (2, 1), (3, 4), (4, 3)):
            self.check_refused("stands", ("build", one, other))

    def test_no_bridge(self):
        for one, other in ((1, 3), (3, 1), (5, 1), (4, 5)):
            self.check_refused("no bridge", ("pull", one, other))

    def test_no_bridge_where_a_road_leads(self):
        deeds = [("build", 1, 2), ("build", 2, 3), ("pull", 1, 3), ("way", 1, 3)]
        self.assertEqual(answers([1, 2, 3], deeds), ["built", "built", "no bridge", ("road", [1, 2, 3])])


class ManyDaysTest(DaysTest):
    def test_every_day_of_three_deeds_with_two_places(self):
        deeds = list(itertools.product(("build", "pull", "way"), (0, 1, 9), (0, 1, 9)))
        for day in itertools.product(deeds, repeat=3):
            self.check_day([1, 0], list(day))

    def test_every_day_of_builds_and_pulls_with_three_places(self):
        deeds = list(itertools.product(("build", "pull"), (-1, 0), (0, 5))) + [("way", 5, -1)]
        for day in itertools.product(deeds, repeat=4):
            self.check_day([5, -1, 0], list(day))

    def test_a_thousand_deeds_with_a_hundred_places(self):
        places = [k * 37 % 100 - 50 for k in range(100)]
        words = ("build", "build", "build", "way", "pull", "build", "way")
        deeds = [(words[k % 7], k * k % 103 - 51, k * 29 % 101 - 50) for k in range(1000)]
        told = self.check_day(places, deeds)
        for answer in ("built", "pulled", "no place", "one place", "stands", "no bridge"):
            self.assertIn(answer, told)

    def test_a_thousand_deeds_somewhat_beyond_the_bounds(self):
        far = 10 ** 130
        places = [far + k for k in range(130)]
        deeds = [("build", place + 1, place) for place in places[:-1]]
        deeds += [("way", places[k % 130], places[k * 7 % 130]) for k in range(900)]
        deeds += [("pull", place, place + 1) for place in places[:-1]]
        deeds += [("way", places[0], places[129])]
        told = self.check_day(places, deeds)
        self.assertEqual(told[-1][0], "wall")
        self.assertEqual(told[:129], ["built"] * 129)


class DayKeepsNothingTest(DaysTest):
    DEEDS = [("build", 3, 1), ("way", 3, 1), ("way", 1, 2), ("pull", 2, 1), ("pull", 1, 3), ("build", 1, 2)]

    def test_places_and_deeds_are_as_they_were(self):
        for call in (answers, standing):
            places = [3, 1, 2]
            deeds = list(self.DEEDS)
            call(places, deeds)
            self.assertEqual(places, [3, 1, 2])
            self.assertEqual(deeds, self.DEEDS)

    def test_each_day_begins_with_no_bridge(self):
        for call in (answers, standing):
            self.assertEqual(call([1, 2, 3], self.DEEDS), call([1, 2, 3], self.DEEDS))
        self.assertEqual(answers([1, 2], [("build", 1, 2)]), ["built"])
        self.assertEqual(answers([1, 2], [("build", 1, 2)]), ["built"])
        self.assertEqual(standing([1, 2], []), [])

    def test_who_changes_an_answer_changes_no_other(self):
        deeds = [("build", 1, 2), ("way", 1, 2), ("way", 1, 2), ("way", 1, 3), ("way", 1, 3)]
        told = answers([1, 2, 3], deeds)
        told[1][1].append(99)
        told[3][1].append(99)
        self.assertEqual(told[2], ("road", [1, 2]))
        self.assertEqual(told[4], ("wall", [1, 2]))
        self.check_day([1, 2, 3], deeds)

    def test_who_changes_what_stands_changes_no_later_day(self):
        standing([1, 2], []).append((1, 2))
        standing([1, 2], [("build", 1, 2)]).clear()
        self.assertEqual(standing([1, 2], []), [])
        self.assertEqual(standing([1, 2], [("build", 1, 2)]), [(1, 2)])


if __name__ == "__main__":
    unittest.main()
