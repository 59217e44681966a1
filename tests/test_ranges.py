import unittest

from samples import (
    ALL_MOVES, NO_RIDGES, STEP, Refusing, all_ranges, height_of, levels_of, made_climb, ridges_up_to,
)
from unison.errors import BadRange, BadRidge
from unison.ranges import changed, meeting
from unison.ridges import about

UNLIKE_END = ["u", "uu", "uud", "ududu", "uuddu"]
BELOW = ["du", "uddu", "duud", "udduud", "uuddduud", "dduu"]
BOTH = ["d", "ddd", "udd", "duu", "uudddd", "dud"]


def many_makes():
    """Ranges low and high: one peak, many, with valleys down to height 0, a wide plain of turns, wandering ones."""
    makes = ["u" * 30 + "d" * 30, "ud" * 20, "uudd" * 9, "uuuddd" + "ud" * 5 + "uuddud", "uudud" * 6 + "d" * 6]
    makes += ["ud" + "uudd" + "uuuddd" + "uudd" + "ud", "u" * 9 + "du" * 12 + "d" * 9, "u" * 5 + "dduu" * 4 + "d" * 5]
    for number in range(12):
        wandering = [
            made_climb(height, 20, number) + about(made_climb(height, 30, number + 50)) for height in (3, 8, 5)
        ]
        makes += wandering + ["".join(wandering), made_climb(9, 40, number) + "dddd" + "du" * number + "ddddd"]
    return makes


class Ranges(unittest.TestCase):
    def places_led_to(self, ridge, moves):
        """The places at the end; each step is held against the heights, the second one's forth being back."""
        self.assertIs(type(moves), list)
        self.assertTrue(set(moves) <= set(ALL_MOVES), ridge)
        levels, first, second = levels_of(ridge), 0, len(ridge)
        for move in moves:
            first, second = first + STEP[move[0]], second - STEP[move[1]]
            self.assertTrue(0 <= first <= len(ridge) and 0 <= second <= len(ridge), (ridge, moves))
            self.assertEqual(levels[first], levels[second], (ridge, moves))
        return first, second

    def assert_met_and_changed(self, ridge):
        first, second = self.places_led_to(ridge, meeting(ridge))
        self.assertEqual(first, second, ridge)
        self.assertEqual(self.places_led_to(ridge, changed(ridge)), (len(ridge), 0), ridge)

    def test_told_ones(self):
        self.assertEqual(meeting("ud"), ["ff"])
        self.assertEqual(changed("ud"), ["ff", "ff"])
        self.assertEqual(meeting("uudd"), ["ff", "ff"])
        self.assertEqual(changed("uudd"), ["ff", "ff", "ff", "ff"])

    def test_the_empty_text(self):
        self.assertEqual(meeting(""), [])
        self.assertEqual(changed(""), [])

    def test_all_short_ranges(self):
        ranges = all_ranges(14)
        self.assertGreater(len(ranges), 500)
        for ridge in ranges:
            self.assert_met_and_changed(ridge)

    def test_many_makes(self):
        makes = many_makes()
        self.assertTrue(all(levels_of(ridge)[-1] == min(levels_of(ridge)) == 0 for ridge in makes))
        for ridge in makes:
            self.assert_met_and_changed(ridge)
            self.assert_met_and_changed(about(ridge))

    def test_valleys_down_to_height_0(self):
        for ridge in ("udud", "uuddud", "uduudd", "uududduudd", "uduudduuudddud", "uududd" * 8, "ud" * 50):
            self.assertEqual(height_of(ridge, len(ridge)), 0)
            self.assertGreater(levels_of(ridge).count(0), 2)
            self.assert_met_and_changed(ridge)

    def test_the_highest_place_near_an_end(self):
        for ridge in ("uuuddd" + "ud" * 8, "ud" * 8 + "uuuddd", "u" * 6 + "d" * 6 + "uudd" * 3):
            self.assert_met_and_changed(ridge)

    def test_long_ranges(self):
        self.assertEqual(meeting("u" * 20000 + "d" * 20000), ["ff"] * 20000)
        self.assertEqual(changed("u" * 20000 + "d" * 20000), ["ff"] * 40000)
        self.assert_met_and_changed(made_climb(20, 1500, 1) + about(made_climb(20, 1500, 2)))

    def test_a_new_list_each_time(self):
        for ask in (meeting, changed):
            for ridge in ("", "ud", "uduudd"):
                told, again = ask(ridge), ask(ridge)
                self.assertIsNot(told, again)
                kept = list(again)
                told.insert(0, "changed")
                self.assertEqual(again, kept)
                self.assertEqual(ask(ridge), kept)


class RangeRefusals(Refusing):
    def test_what_is_no_ridge(self):
        for ask in (meeting, changed):
            for value in NO_RIDGES:
                with self.subTest(ask=ask.__name__, kind=type(value).__name__):
                    self.assert_refused(BadRidge, ask, value)

    def test_what_is_no_range(self):
        for ask in (meeting, changed):
            for value in UNLIKE_END + BELOW + BOTH:
                with self.subTest(ask=ask.__name__, value=value):
                    self.assert_refused(BadRange, ask, value)

    def test_each_short_ridge_is_a_range_or_refused(self):
        ranges = all_ranges(7)
        for ask in (meeting, changed):
            for ridge in ridges_up_to(7):
                if ridge in ranges:
                    self.assertIs(type(ask(ridge)), list)
                else:
                    self.assert_refused(BadRange, ask, ridge)

    def test_bad_ridge_goes_ahead_of_bad_range(self):
        for ask in (meeting, changed):
            for value in ("ux", "xd", "dux", "uuxd", "d "):
                self.assert_refused(BadRidge, ask, value)


if __name__ == "__main__":
    unittest.main()
