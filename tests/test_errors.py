import unittest

from unison import errors


class Errors(unittest.TestCase):
    def test_base_is_straight_under_value_error(self):
        self.assertEqual(errors.RidgeError.__bases__, (ValueError,))

    def test_each_refusal_is_straight_under_the_base(self):
        for name in ("BadRidge", "BadClimb", "BadRange", "BadPlaces", "BadMoves", "Unlike"):
            with self.subTest(name=name):
                refusal = getattr(errors, name)
                self.assertEqual(refusal.__name__, name)
                self.assertEqual(refusal.__bases__, (errors.RidgeError,))

    def test_none_is_taken_for_another(self):
        with self.assertRaises(errors.BadPlaces):
            try:
                raise errors.BadPlaces("words")
            except (errors.BadRidge, errors.BadClimb, errors.BadRange, errors.BadMoves, errors.Unlike):
                self.fail("taken for another refusal")


if __name__ == "__main__":
    unittest.main()
