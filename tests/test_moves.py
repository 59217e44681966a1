import itertools
import unittest

from samples import (
    ALL_MOVES, BACK, NO_PLACES, NO_RIDGES, OTHER_KINDS, OTHER_TEXTS, EqualToAll, Refusing, climbs_up_to, height_of,
    holding_itself, led_to, like_pairs, ridges_up_to,
)
from unison.errors import BadMoves, BadPlaces, BadRidge
from unison.moves import moves_at, thinned


def all_taken_back(moves):
    return [BACK[move] for move in reversed(moves)]


def move_lists_up_to(length):
    return [list(moves) for count in range(length + 1) for moves in itertools.product(ALL_MOVES, repeat=count)]


def left_when_thinned_from_the_end(moves):
    left = list(moves)
    while True:
        places = [k for k in range(len(left) - 1) if left[k + 1] == BACK[left[k]]]
        if not places:
            return left
        del left[places[-1]:places[-1] + 2]


class MovesAt(unittest.TestCase):
    def assert_told(self, rows):
        for one, other, first, second, told in rows:
            with self.subTest(one=one, other=other, first=first, second=second):
                self.assertEqual(moves_at(one, other, first, second), told)

    def test_at_feet_and_ends(self):
        self.assert_told([
            ("u", "u", 0, 0, ["ff"]),
            ("d", "d", 0, 0, ["ff"]),
            ("u", "d", 0, 0, []),
            ("u", "u", 1, 1, ["bb"]),
            ("ud", "ud", 2, 2, ["bb"]),
            ("ud", "du", 2, 2, []),
            ("ud", "ud", 0, 2, ["fb"]),
            ("ud", "ud", 2, 0, ["bf"]),
            ("du", "ud", 0, 2, []),
        ])

    def test_between(self):
        self.assert_told([
            ("ud", "ud", 1, 1, ["ff", "fb", "bf", "bb"]),
            ("uu", "uu", 1, 1, ["ff", "bb"]),
            ("uu", "ud", 1, 1, ["bf", "bb"]),
            ("ud", "uu", 1, 1, ["fb", "bb"]),
            ("uud", "udu", 1, 1, ["bf", "bb"]),
            ("uudd", "uudd", 1, 3, ["fb", "bf"]),
            ("uduu", "uduu", 2, 2, ["ff", "fb", "bf", "bb"]),
            ("uudu", "uduu", 3, 1, []),
        ])

    def test_below_the_feet(self):
        self.assert_told([
            ("du", "du", 1, 1, ["ff", "fb", "bf", "bb"]),
            ("dd", "dd", 1, 1, ["ff", "bb"]),
            ("udd", "duu", 2, 2, ["fb", "bf"]),
            ("uddu", "uuddd", 2, 4, ["ff", "bb"]),
            ("uddu", "uuddd", 3, 5, ["fb", "bb"]),
            ("ddu", "ddu", 3, 1, ["bf"]),
            ("ddu", "ddu", 1, 3, ["fb"]),
            ("ddu", "dud", 3, 3, []),
        ])

    def test_on_the_empty_text(self):
        self.assert_told([
            ("", "", 0, 0, []),
            ("", "u", 0, 0, []),
            ("d", "", 0, 0, []),
            ("", "ud", 0, 2, []),
            ("udud", "", 2, 0, []),
        ])

    def test_all_short_ridges(self):
        for one in ridges_up_to(5):
            for other in ridges_up_to(5):
                pairs = like_pairs(one, other)
                for first, second in pairs:
                    told = [move for move in ALL_MOVES if led_to(first, second, move) in pairs]
                    self.assertEqual(moves_at(one, other, first, second), told)

    def test_a_move_can_be_taken_back(self):
        for one in ridges_up_to(4):
            for other in ridges_up_to(4):
                for first, second in like_pairs(one, other):
                    for move in moves_at(one, other, first, second):
                        there = led_to(first, second, move)
                        self.assertIn(BACK[move], moves_at(one, other, *there))
                        self.assertEqual(led_to(*there, BACK[move]), (first, second))

    def test_long_ridges(self):
        one = "ud" * 30000 + "u"
        other = "u" + "du" * 30000
        self.assertEqual(moves_at(one, other, 60001, 60001), ["bb"])
        self.assertEqual(moves_at(one, other, 30001, 59999), ALL_MOVES)

    def test_a_new_list_each_time(self):
        for one, other, first, second in [("", "", 0, 0), ("u", "u", 0, 0), ("ud", "ud", 1, 1)]:
            told = moves_at(one, other, first, second)
            again = moves_at(one, other, first, second)
            self.assertIs(type(told), list)
            self.assertIsNot(told, again)
            kept = list(again)
            told.append("bb")
            told[0] = "changed"
            self.assertEqual(again, kept)
            self.assertEqual(moves_at(one, other, first, second), kept)


class CountsOnClimbs(unittest.TestCase):
    def test_even_but_at_both_feet_and_both_tops(self):
        asked = 0
        climbs = climbs_up_to(8)
        for one in climbs:
            for other in climbs:
                if height_of(one, len(one)) != height_of(other, len(other)):
                    continue
                ends = [(0, 0), (len(one), len(other))]
                for first, second in like_pairs(one, other):
                    count = len(moves_at(one, other, first, second))
                    asked += 1
                    if (first, second) in ends and ends[0] != ends[1]:
                        self.assertEqual(count, 1, (one, other, first, second))
                    else:
                        self.assertEqual(count % 2, 0, (one, other, first, second))
        self.assertGreater(asked, 1000)

    def test_none_where_both_feet_and_both_tops_are_one_place(self):
        self.assertEqual(moves_at("", "", 0, 0), [])


class MovesAtRefusals(Refusing):
    def test_what_is_no_ridge(self):
        for value in NO_RIDGES:
            with self.subTest(kind=type(value).__name__):
                self.assert_refused(BadRidge, moves_at, value, "ud", 0, 0)
                self.assert_refused(BadRidge, moves_at, "ud", value, 0, 0)
                self.assert_refused(BadRidge, moves_at, value, value, 0, 0)

    def test_what_is_no_place(self):
        for value in NO_PLACES + [3, 4]:
            with self.subTest(kind=type(value).__name__):
                for place in (0, 1, 2):
                    self.assert_refused(BadPlaces, moves_at, "ud", "ud", value, place)
                    self.assert_refused(BadPlaces, moves_at, "ud", "ud", place, value)
                self.assert_refused(BadPlaces, moves_at, "ud", "ud", value, value)

    def test_beyond_the_own_end_though_not_the_other_ones(self):
        self.assert_refused(BadPlaces, moves_at, "ud", "udud", 4, 4)
        self.assert_refused(BadPlaces, moves_at, "udud", "ud", 4, 4)
        self.assert_refused(BadPlaces, moves_at, "", "ud", 1, 1)
        self.assert_refused(BadPlaces, moves_at, "", "", 1, 0)
        self.assert_refused(BadPlaces, moves_at, "", "", 0, -1)

    def test_true_and_false_are_no_numbers(self):
        for value in (True, False):
            place = int(value)
            self.assertEqual(type(moves_at("ud", "ud", place, place)), list)
            self.assert_refused(BadPlaces, moves_at, "ud", "ud", value, place)
            self.assert_refused(BadPlaces, moves_at, "ud", "ud", place, value)

    def test_unlike_heights(self):
        for one in ridges_up_to(4):
            for other in ridges_up_to(4):
                alike = like_pairs(one, other)
                for pair in itertools.product(range(len(one) + 1), range(len(other) + 1)):
                    if pair not in alike:
                        self.assert_refused(BadPlaces, moves_at, one, other, *pair)

    def test_bad_ridge_goes_ahead_of_bad_places(self):
        for first, second in [(-1, 0), (0, 9), (True, 0), ("0", None), (0, 1), ([], {})]:
            self.assert_refused(BadRidge, moves_at, "ux", "ud", first, second)
            self.assert_refused(BadRidge, moves_at, "ud", "ux", first, second)
            self.assert_refused(BadRidge, moves_at, None, "ud", first, second)
            self.assert_refused(BadRidge, moves_at, "ud", 5, first, second)


class Thinned(unittest.TestCase):
    def assert_told(self, rows):
        for moves, told in rows:
            with self.subTest(moves=moves):
                self.assertEqual(thinned(moves), told)

    def test_no_move_and_none_taken_back(self):
        self.assert_told([
            ([], []),
            (["ff"], ["ff"]),
            (["ff", "ff"], ["ff", "ff"]),
            (["fb", "fb", "ff", "bf"], ["fb", "fb", "ff", "bf"]),
            (["ff", "fb", "bb", "bf"], ["ff", "fb", "bb", "bf"]),
            (["ff", "bf", "bb"], ["ff", "bf", "bb"]),
        ])

    def test_each_move_by_the_one_that_takes_it_back_alone(self):
        for move in ALL_MOVES:
            for following in ALL_MOVES:
                told = [] if following == BACK[move] else [move, following]
                self.assertEqual(thinned([move, following]), told)

    def test_one_behind_the_other(self):
        self.assert_told([
            (["ff", "bb", "fb", "bf"], []),
            (["ff", "bb", "bf", "bf", "bb", "ff"], ["bf", "bf"]),
            (["ff", "bb", "ff"], ["ff"]),
            (["fb", "bf", "fb", "bf", "fb"], ["fb"]),
        ])

    def test_within_one_another(self):
        self.assert_told([
            (["ff", "fb", "bf", "bb"], []),
            (["ff", "ff", "fb", "bf", "bb"], ["ff"]),
            (["bf", "ff", "fb", "bf", "bb", "bf"], ["bf", "bf"]),
            (["ff", "fb", "bf", "bf", "fb", "bb", "bb"], ["bb"]),
        ])

    def test_the_same_in_whatever_turn(self):
        for moves in move_lists_up_to(6):
            told = thinned(moves)
            self.assertEqual(told, left_when_thinned_from_the_end(moves))
            self.assertFalse([k for k in range(len(told) - 1) if told[k + 1] == BACK[told[k]]])

    def test_thinned_again_is_the_same(self):
        for moves in move_lists_up_to(5):
            told = thinned(moves)
            self.assertEqual(thinned(told), told)

    def test_moves_and_then_all_of_them_taken_back(self):
        for moves in move_lists_up_to(5):
            self.assertEqual(thinned(moves + all_taken_back(moves)), [])

    def test_many_moves(self):
        moves = ["ff", "fb", "ff", "bf"] * 20000
        self.assertEqual(thinned(moves), moves)
        self.assertEqual(thinned(moves + all_taken_back(moves)), [])

    def test_what_is_handed_in_stays(self):
        for moves in ([], ["ff"], ["ff", "bb"], ["ff", "fb", "bf", "ff"]):
            kept = list(moves)
            thinned(moves)
            self.assertEqual(moves, kept)

    def test_a_new_list_each_time(self):
        for moves in ([], ["ff"], ["ff", "bb"], ["ff", "fb"]):
            kept = list(moves)
            told = thinned(moves)
            again = thinned(moves)
            self.assertIs(type(told), list)
            self.assertIsNot(told, moves)
            self.assertIsNot(told, again)
            expected = list(again)
            told.append("bb")
            told[0] = "changed"
            self.assertEqual(again, expected)
            self.assertEqual(moves, kept)
            self.assertEqual(thinned(moves), expected)


class ThinnedRefusals(Refusing):
    def test_what_is_no_list(self):
        no_list = [value for value in OTHER_KINDS if type(value) is not list] + ["", "ff", "ffbb"]
        no_list += [("ff",), ("ff", "bb"), {"ff": "bb"}, {"ff"}, iter(["ff"]), range(0)]
        for value in no_list:
            with self.subTest(kind=type(value).__name__):
                self.assert_refused(BadMoves, thinned, value)

    def test_something_in_it_that_is_no_move(self):
        no_moves = OTHER_KINDS + OTHER_TEXTS + ["", "f", "b", "fff", "ffbb", "FF", "fF", " ff", "ff ", "fu", "ud", "f\n"]
        no_moves += [["ff"], ("f", "f"), ["f", "f"], {"ff": "ff"}, EqualToAll(), b"ff"]
        for value in no_moves:
            with self.subTest(kind=type(value).__name__):
                for moves in ([value], [value, "ff"], ["ff", value], ["ff", value, "bb"], ["ff", "bb", value]):
                    self.assert_refused(BadMoves, thinned, moves)

    def test_a_list_that_holds_itself(self):
        self.assert_refused(BadMoves, thinned, holding_itself())

    def test_what_is_refused_stays(self):
        inner = ["ff"]
        moves = ["ff", "bb", inner]
        self.assert_refused(BadMoves, thinned, moves)
        self.assertEqual(moves, ["ff", "bb", ["ff"]])
        self.assertIs(moves[2], inner)


if __name__ == "__main__":
    unittest.main()
