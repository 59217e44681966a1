import itertools
import unittest

from samples import (
    ALL_MOVES, NO_RIDGES, STEP, EqualToAll, Refusing, climbs_up_to, holding_itself, is_climb, is_way, levels_of,
    made_climb, ridges_up_to,
)
from unison.climbs import in_unison, together
from unison.errors import BadClimb, BadRidge, Unlike

# Ridges that are no climbs: below the foot, above the end, both.
BELOW = ["du", "duu", "udduuu", "uuddduuu", "dduuu"]
ABOVE = ["ud", "uud", "uuudd", "uduuddu", "udud"]
BOTH = ["d", "ddd", "uudddu", "dudd", "duuud"]


def nested(height):
    """A climb that goes nearly down to its foot and up again from each place that is higher than all before."""
    return "u" + "".join("u" + "d" * level + "u" * level for level in range(1, height))


def many_makes(height):
    """Climbs of one height: straight, with small and wide turns, early and late, and wandering ones."""
    straight = "u" * height
    makes = [straight, "u" + "du" * 5 + straight[1:], straight + "du" * 5, straight + ("d" * height + straight) * 2]
    makes += ["uud" * (height - 1) + "u", "udu" * height, nested(height)]
    return makes + [made_climb(height, steps, number) for number, steps in enumerate((3, 8, 13, 21, 34))]


class Together(unittest.TestCase):
    def assert_led_to_both_tops(self, one, other):
        moves = together(one, other)
        self.assertIs(type(moves), list)
        self.assertTrue(set(moves) <= set(ALL_MOVES), (one, other))
        self.assertTrue(is_way(moves, one, other, len(one), len(other)), (one, other))
        return moves

    def test_told_ones(self):
        self.assertEqual(together("", ""), [])
        self.assertEqual(together("u", "u"), ["ff"])
        self.assertEqual(together("uuu", "uuu"), ["ff", "ff", "ff"])
        self.assertEqual(together("u", "udu"), ["ff", "bf", "ff"])
        self.assertEqual(together("uudu", "uu"), ["ff", "ff", "fb", "ff"])

    def test_all_short_climbs(self):
        asked = 0
        for one, other in itertools.product(climbs_up_to(8), repeat=2):
            if levels_of(one)[-1] == levels_of(other)[-1]:
                self.assert_led_to_both_tops(one, other)
                asked += 1
        self.assertGreater(asked, 300)

    def test_many_makes_low_and_high_in_both_turns(self):
        for height in (1, 2, 3, 5, 9, 20):
            makes = many_makes(height)
            self.assertTrue(all(is_climb(climb) and levels_of(climb)[-1] == height for climb in makes))
            for one, other in itertools.product(makes, repeat=2):
                self.assert_led_to_both_tops(one, other)

    def test_both_have_to_go_back(self):
        one, other = "uuduuu" + "dddd" + "uuuu", "uuuu" + "ddd" + "uuu"
        self.assertEqual((is_climb(one), is_climb(other)), (True, True))
        moves = self.assert_led_to_both_tops(one, other)
        self.assertTrue(any(move[0] == "b" for move in moves))
        self.assertTrue(any(move[1] == "b" for move in moves))

    def test_a_climb_with_itself(self):
        for climb in climbs_up_to(9) + [made_climb(7, 300, 5), "u" * 5000]:
            self.assert_led_to_both_tops(climb, climb)

    def test_long_climbs(self):
        self.assertEqual(together("u" * 30000, "u" * 30000), ["ff"] * 30000)
        self.assert_led_to_both_tops(made_climb(20, 1500, 1), made_climb(20, 1500, 2))
        self.assert_led_to_both_tops("u" * 2000, "u" * 1000 + "d" * 999 + "u" * 1999)

    def test_a_new_list_each_time(self):
        for one, other in [("", ""), ("u", "udu")]:
            told, again = together(one, other), together(one, other)
            self.assertIsNot(told, again)
            kept = list(again)
            told.insert(0, "changed")
            self.assertEqual(again, kept)
            self.assertEqual(together(one, other), kept)


class TogetherRefusals(Refusing):
    def test_what_is_no_ridge(self):
        for value in NO_RIDGES:
            with self.subTest(kind=type(value).__name__):
                self.assert_refused(BadRidge, together, value, "u")
                self.assert_refused(BadRidge, together, "u", value)
                self.assert_refused(BadRidge, together, value, value)

    def test_what_is_no_climb(self):
        for value in BELOW + ABOVE + BOTH:
            self.assert_refused(BadClimb, together, value, "u")
            self.assert_refused(BadClimb, together, "u", value)
            self.assert_refused(BadClimb, together, value, value)

    def test_each_short_ridge_is_a_climb_or_refused(self):
        for ridge in ridges_up_to(8):
            if is_climb(ridge):
                self.assertIs(type(together(ridge, ridge)), list)
            else:
                self.assert_refused(BadClimb, together, ridge, ridge)

    def test_unlike_tops(self):
        for one, other in itertools.product(climbs_up_to(6), repeat=2):
            if levels_of(one)[-1] != levels_of(other)[-1]:
                self.assert_refused(Unlike, together, one, other)

    def test_the_first_one_goes_first(self):
        self.assert_refused(BadClimb, together, "d", "x")
        self.assert_refused(BadClimb, together, "ud", None)
        self.assert_refused(BadRidge, together, "x", "d")
        self.assert_refused(BadRidge, together, None, "ud")

    def test_bad_ridge_goes_ahead_of_bad_climb(self):
        for value in ("dx", "xd", "udx", ["d"]):
            self.assert_refused(BadRidge, together, value, "u")
            self.assert_refused(BadRidge, together, "u", value)

    def test_unlike_goes_last(self):
        self.assert_refused(BadRidge, together, "uu", "ux")
        self.assert_refused(BadRidge, together, "ux", "uu")
        self.assert_refused(BadClimb, together, "uu", "uud")
        self.assert_refused(BadClimb, together, "duu", "uu")
        self.assert_refused(BadClimb, together, "", "ud")
        self.assert_refused(BadClimb, together, "du", "")


class InUnison(unittest.TestCase):
    def levels_walked(self, climb, word):
        levels, place, walked = levels_of(climb), 0, [0]
        for letter in word:
            place += STEP[letter]
            self.assertTrue(0 <= place <= len(climb), (climb, word))
            walked.append(levels[place])
        self.assertEqual(place, len(climb), (climb, word))
        return walked

    def assert_walked(self, climbs):
        kept = list(climbs)
        words = in_unison(climbs)
        self.assertEqual(climbs, kept)
        self.assertIs(type(words), list)
        self.assertEqual(len(words), len(climbs))
        self.assertEqual({type(word) for word in words}, {str})
        self.assertEqual(len({len(word) for word in words}), 1, climbs)
        walks = [self.levels_walked(climb, word) for climb, word in zip(climbs, words)]
        self.assertTrue(all(walk == walks[0] for walk in walks), climbs)
        return words

    def test_one_climb(self):
        self.assertEqual(in_unison(["uuu"]), ["fff"])
        self.assertEqual(in_unison([""]), [""])
        for climb in climbs_up_to(8):
            self.assert_walked([climb])

    def test_two_climbs(self):
        self.assertEqual(in_unison(["u", "udu"]), ["fbf", "fff"])
        for one, other in itertools.product(climbs_up_to(7), repeat=2):
            if levels_of(one)[-1] == levels_of(other)[-1]:
                self.assert_walked([one, other])

    def test_three_climbs(self):
        for three in itertools.product([climb for climb in climbs_up_to(8) if levels_of(climb)[-1] == 2], repeat=3):
            self.assert_walked(list(three))

    def test_up_to_a_dozen_of_many_makes(self):
        for height in (1, 2, 3, 5, 9):
            makes = many_makes(height)
            for count in range(3, len(makes) + 1):
                self.assert_walked(makes[:count])
                self.assert_walked(makes[::-1][:count])

    def test_a_dozen(self):
        for height, steps in [(1, 9), (3, 18), (6, 30), (10, 50), (25, 60)]:
            words = self.assert_walked([made_climb(height, steps, number) for number in range(12)])
            self.assertEqual(len(words), 12)

    def test_the_same_one_twice(self):
        for climb in ("u", "uduu", "uuduuduu", made_climb(5, 40, 3)):
            self.assert_walked([climb, climb])
            self.assert_walked([climb, "u" * levels_of(climb)[-1], climb])
            self.assert_walked([climb] * 12)

    def test_a_straight_one_among_them(self):
        others = [made_climb(6, 30, number) for number in range(3)]
        for place in range(4):
            self.assert_walked(others[:place] + ["uuuuuu"] + others[place:])

    def test_empty_texts(self):
        for count in (1, 2, 5, 12):
            self.assertEqual(in_unison([""] * count), [""] * count)

    def test_a_new_list_each_time(self):
        for climbs in ([""], ["u"], ["u", "udu"], ["udu", "u", "ududu"]):
            kept = list(climbs)
            told, again = in_unison(climbs), in_unison(climbs)
            self.assertIsNot(told, again)
            self.assertIsNot(told, climbs)
            expected = list(again)
            told.insert(0, "changed")
            self.assertEqual(again, expected)
            self.assertEqual(climbs, kept)
            self.assertEqual(in_unison(climbs), expected)

    def test_a_list_changed_after_changes_nothing_told(self):
        climbs = ["u", "udu"]
        told = in_unison(climbs)
        climbs.clear()
        self.assertEqual(told, ["fbf", "fff"])


class InUnisonRefusals(Refusing):
    def test_what_is_no_list_of_one_at_least(self):
        values = [value for value in NO_RIDGES if type(value) is not list] + ["", "u", "uu", "d", ("u",), ("u", "u")]
        values += [{"u": "u"}, {"u"}, iter(["u"]), range(0), {0: "u"}, [], EqualToAll(), None]
        for value in values:
            with self.subTest(kind=type(value).__name__):
                self.assert_refused(BadClimb, in_unison, value)

    def test_something_in_it_that_is_no_ridge(self):
        for value in NO_RIDGES + [["u"], ("u",)]:
            with self.subTest(kind=type(value).__name__):
                for climbs in ([value], [value, "u"], ["u", value], ["u", value, "u"], ["u", "udu", value]):
                    self.assert_refused(BadRidge, in_unison, climbs)

    def test_a_list_that_holds_itself(self):
        self.assert_refused(BadRidge, in_unison, holding_itself())

    def test_something_in_it_that_is_no_climb(self):
        for value in BELOW + ABOVE + BOTH:
            for climbs in ([value], [value, "u"], ["u", value], ["u", value, "u"], ["u", "udu", value]):
                self.assert_refused(BadClimb, in_unison, climbs)

    def test_unlike_tops(self):
        for climbs in (["u", "uu"], ["uu", "u"], ["", "u"], ["u", ""], ["u", "u", "uu"], ["uu", "u", "uu"],
                       ["udu", "uduu", "u"], ["", "", "u"], ["u"] * 11 + ["uuu"]):
            self.assert_refused(Unlike, in_unison, climbs)

    def test_each_in_turn(self):
        self.assert_refused(BadClimb, in_unison, ["d", "x"])
        self.assert_refused(BadClimb, in_unison, ["u", "ud", None])
        self.assert_refused(BadRidge, in_unison, ["x", "d"])
        self.assert_refused(BadRidge, in_unison, ["u", None, "ud"])
        self.assert_refused(BadRidge, in_unison, ["u", "dx"])

    def test_unlike_goes_last(self):
        self.assert_refused(BadRidge, in_unison, ["u", "uu", "x"])
        self.assert_refused(BadRidge, in_unison, ["x", "u", "uu"])
        self.assert_refused(BadClimb, in_unison, ["u", "uu", "d"])
        self.assert_refused(BadClimb, in_unison, ["ud", "u", "uu"])
        self.assert_refused(BadClimb, in_unison, ["u", "", "udd"])

    def test_what_is_refused_stays(self):
        for climbs in (["u", "uu"], ["u", "d"], ["u", None], []):
            kept = list(climbs)
            self.assertRaises(ValueError, in_unison, climbs)
            self.assertEqual(climbs, kept)


if __name__ == "__main__":
    unittest.main()
