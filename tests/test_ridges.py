import unittest

from samples import NO_RIDGES, height_of, ridges_up_to
from unison.errors import BadRidge, RidgeError
from unison.ridges import about, heights, upside_down

LONG = "uud" * 20000 + "d" * 50000


class Heights(unittest.TestCase):
    def test_told_ones(self):
        for ridge, told in [
            ("", [0]),
            ("u", [0, 1]),
            ("d", [0, -1]),
            ("ud", [0, 1, 0]),
            ("du", [0, -1, 0]),
            ("uudddu", [0, 1, 2, 1, 0, -1, 0]),
        ]:
            with self.subTest(ridge=ridge):
                self.assertEqual(heights(ridge), told)

    def test_all_short_ridges(self):
        for ridge in ridges_up_to(8):
            self.assertEqual(heights(ridge), [height_of(ridge, place) for place in range(len(ridge) + 1)])

    def test_long_ridge(self):
        told = heights(LONG)
        self.assertEqual(len(told), 110001)
        self.assertEqual((told[0], told[60000], told[-1]), (0, 20000, -30000))
        self.assertEqual((max(told), min(told)), (20001, -30000))

    def test_is_a_list_of_whole_numbers(self):
        for ridge in ("", "ud"):
            told = heights(ridge)
            self.assertIs(type(told), list)
            self.assertEqual({type(height) for height in told}, {int})

    def test_a_new_list_each_time(self):
        for ridge in ("", "u", "uud"):
            first = heights(ridge)
            second = heights(ridge)
            self.assertIsNot(first, second)
            kept = list(second)
            first.append(99)
            first[0] = 98
            self.assertEqual(second, kept)
            self.assertEqual(heights(ridge), kept)


class Turned(unittest.TestCase):
    def test_upside_down_told_ones(self):
        for ridge, told in [("", ""), ("u", "d"), ("d", "u"), ("uud", "ddu"), ("duuu", "uddd")]:
            with self.subTest(ridge=ridge):
                self.assertEqual(upside_down(ridge), told)

    def test_about_told_ones(self):
        for ridge, told in [("", ""), ("u", "d"), ("d", "u"), ("ud", "ud"), ("uud", "udd"), ("duuu", "dddu")]:
            with self.subTest(ridge=ridge):
                self.assertEqual(about(ridge), told)

    def test_twice_is_the_ridge_again(self):
        for ridge in ridges_up_to(8) + [LONG]:
            self.assertEqual(upside_down(upside_down(ridge)), ridge)
            self.assertEqual(about(about(ridge)), ridge)

    def test_upside_down_has_the_heights_below(self):
        for ridge in ridges_up_to(8) + [LONG]:
            self.assertEqual(heights(upside_down(ridge)), [-height for height in heights(ridge)])

    def test_about_is_walked_from_end_to_foot(self):
        for ridge in ridges_up_to(8) + [LONG]:
            told = heights(ridge)
            self.assertEqual(heights(about(ridge)), [height - told[-1] for height in reversed(told)])

    def test_are_texts(self):
        for ridge in ("", "uud"):
            self.assertIs(type(upside_down(ridge)), str)
            self.assertIs(type(about(ridge)), str)


class Refusals(unittest.TestCase):
    def test_what_is_no_ridge(self):
        for ask in (heights, upside_down, about):
            for value in NO_RIDGES:
                with self.subTest(ask=ask.__name__, kind=type(value).__name__):
                    with self.assertRaises(BadRidge) as caught:
                        ask(value)
                    self.assertIs(type(caught.exception), BadRidge)
                    self.assertIsInstance(caught.exception, RidgeError)
                    self.assertIsInstance(caught.exception, ValueError)

    def test_one_other_letter_anywhere(self):
        for ask in (heights, upside_down, about):
            for place in range(6):
                for letter in "xUDfb -1\n":
                    ridge = "uddud"[:place] + letter + "uddud"[place:]
                    with self.assertRaises(BadRidge):
                        ask(ridge)


if __name__ == "__main__":
    unittest.main()
