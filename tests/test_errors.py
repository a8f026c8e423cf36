import unittest

from holmway.errors import MapError, NoBridge, NoPlace, OnePlace, Stands

REFUSALS = (NoPlace, OnePlace, Stands, NoBridge)


class ErrorsTest(unittest.TestCase):
    def test_any_refusal_is_a_value_error(self):
        self.assertEqual(MapError.__bases__, (ValueError,))

    def test_each_refusal_stands_straight_under_map_error(self):
        for refusal in REFUSALS:
            self.assertEqual(refusal.__bases__, (MapError,), refusal)

    def test_each_refusal_can_be_taken_under_each_of_its_names(self):
        for refusal in REFUSALS:
            for name in (refusal, MapError, ValueError):
                with self.assertRaises(name):
                    raise refusal("some words")

    def test_no_refusal_is_taken_for_another(self):
        for refusal in REFUSALS:
            for other in REFUSALS:
                self.assertEqual(issubclass(refusal, other), refusal == other)

    def test_a_refusal_needs_no_words(self):
        for refusal in REFUSALS + (MapError,):
            with self.assertRaises(MapError):
                raise refusal()


if __name__ == "__main__":
    unittest.main()
