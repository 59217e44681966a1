import itertools
import unittest

from samples import (
    ALL_MOVES, HUGE, NO_PLACES, NO_RIDGES, Refusing, is_shut, is_way, like_pairs, made_climb, ridges_up_to,
)
from unison.errors import BadPlaces, BadRidge
from unison.telling import Answer, Shut, Way, reached

# No move can be done at the feet of these two, and (1, 3), (0, 2) are places of like height for themselves.
APART = ("uu", "duu")


def all_pairs(one, other):
    return list(itertools.product(range(len(one) + 1), range(len(other) + 1)))


def with_one_left_out(values):
    return [values[:k] + values[k + 1:] for k in range(len(values))]


def with_one_put_in(values, others):
    return [values[:k] + [value] + values[k:] for k in range(len(values) + 1) for value in others]


class Kinds(unittest.TestCase):
    def test_straight_under_answer(self):
        self.assertEqual(Answer.__bases__, (object,))
        self.assertEqual(Way.__bases__, (Answer,))
        self.assertEqual(Shut.__bases__, (Answer,))

    def test_fields_by_name(self):
        self.assertEqual(Way(moves=["ff"]).moves, ["ff"])
        self.assertEqual(Shut(pairs=[(0, 0)]).pairs, [(0, 0)])

    def test_lists_are_copied(self):
        moves, pairs = ["ff", "fb"], [(0, 0), (1, 1)]
        way, shut = Way(moves), Shut(pairs)
        self.assertIs(type(way.moves), list)
        self.assertIs(type(shut.pairs), list)
        moves.append("bb")
        moves[0] = "bb"
        pairs.clear()
        self.assertEqual(way.moves, ["ff", "fb"])
        self.assertEqual(shut.pairs, [(0, 0), (1, 1)])
        way.moves.clear()
        shut.pairs.append((2, 2))
        self.assertEqual(moves, ["bb", "fb", "bb"])
        self.assertEqual(pairs, [])


class Reached(unittest.TestCase):
    def assert_told(self, one, other, first, second):
        told = reached(one, other, first, second)
        asked = (one, other, first, second)
        if type(told) is Way:
            self.assertIs(type(told.moves), list)
            self.assertTrue(set(told.moves) <= set(ALL_MOVES), asked)
            self.assertTrue(is_way(told.moves, *asked), asked)
        else:
            self.assertIs(type(told), Shut)
            self.assertIs(type(told.pairs), list)
            self.assertEqual({type(pair) for pair in told.pairs}, {tuple})
            self.assertTrue(is_shut(told.pairs, *asked), asked)
        self.assertIs(told.shows(*asked), True, asked)
        return told

    def assert_way(self, *asked):
        with self.subTest(asked=asked):
            self.assertIs(type(self.assert_told(*asked)), Way)

    def assert_shut(self, *asked):
        with self.subTest(asked=asked):
            self.assertIs(type(self.assert_told(*asked)), Shut)

    def test_at_feet(self):
        for one, other in [("", ""), ("", "u"), ("d", ""), ("u", "u"), ("u", "d"), ("udud", "uudd")]:
            self.assert_way(one, other, 0, 0)
            self.assertEqual(reached(one, other, 0, 0).moves, [])

    def test_at_ends(self):
        self.assert_way("u", "u", 1, 1)
        self.assert_way("uduu", "uudu", 4, 4)
        self.assert_way("dd", "dudd", 2, 4)
        self.assert_way("udud", "ud", 4, 0)
        self.assert_shut("ud", "uudd", 2, 4)
        self.assert_shut("ud", "du", 2, 2)
        self.assert_shut("uuddu", "duu", 5, 3)

    def test_between(self):
        self.assert_way("uuddud", "uuddud", 3, 1)
        self.assert_way("uuddud", "uuddud", 2, 2)
        self.assert_way("uudu", "uduu", 1, 3)
        self.assert_way("uud", "udud", 1, 3)
        self.assert_shut("uud", "udud", 3, 1)
        self.assert_shut("uddu", "uuddu", 2, 4)

    def test_ridges_alike(self):
        for ridge in ridges_up_to(7):
            for place in range(len(ridge) + 1):
                self.assert_way(ridge, ridge, place, place)

    def test_ridges_begun_alike(self):
        self.assert_way("uduudd", "uduuuu", 4, 4)
        self.assert_way("uduudd", "uduudu", 6, 0)
        self.assert_shut("uduudd", "ududud", 6, 6)
        self.assert_way("uuud", "uudd", 2, 2)
        self.assert_way("uuud", "uudd", 1, 3)
        self.assert_shut("uuud", "uudd", 4, 2)

    def test_ridges_unlike(self):
        self.assert_shut("udud", "dudu", 2, 2)
        self.assert_shut("udud", "dudu", 0, 2)
        self.assert_shut("udud", "dudu", 4, 0)
        self.assert_shut(*APART, 1, 3)

    def test_on_the_empty_text(self):
        self.assert_way("", "", 0, 0)
        self.assert_shut("", "ud", 0, 2)
        self.assert_shut("udud", "", 4, 0)
        self.assert_shut("duud", "", 2, 0)

    def test_all_short_ridges(self):
        told = [
            type(self.assert_told(one, other, first, second))
            for one in ridges_up_to(5)
            for other in ridges_up_to(5)
            for first, second in like_pairs(one, other)
        ]
        self.assertGreater(told.count(Way), 1000)
        self.assertGreater(told.count(Shut), 1000)

    def test_longer_ridges(self):
        for number in range(12):
            one = made_climb(4, 20, number) + made_climb(4, 11, number + 100)
            other = made_climb(5, 22, number + 200) + "dd" * number
            for first, second in like_pairs(one, other)[::7]:
                self.assert_told(one, other, first, second)

    def test_thousands_of_steps(self):
        ridge = "u" * 20000 + "d" * 20000
        self.assertEqual(reached(ridge, ridge, 40000, 40000).moves, ["ff"] * 40000)
        self.assertEqual(reached(ridge, ridge, 40000, 0).moves, ["ff"] * 20000 + ["fb"] * 20000)
        asked = (ridge, ridge[1:-1], 40000, 39998)
        shut = reached(*asked)
        self.assertIs(type(shut), Shut)
        self.assertIs(shut.shows(*asked), True)

    def test_never_both(self):
        for one in ridges_up_to(3):
            for other in ridges_up_to(3):
                pairs = like_pairs(one, other)
                sets = [list(some) for count in range(len(pairs) + 1) for some in itertools.combinations(pairs, count)]
                for first, second in pairs:
                    shown = any(Shut(some).shows(one, other, first, second) for some in sets)
                    way = type(reached(one, other, first, second)) is Way
                    self.assertIs(shown, not way, (one, other, first, second))

    def test_a_new_answer_each_time(self):
        for asked in [("", "", 0, 0), ("ud", "ud", 2, 2), ("ud", "du", 2, 2), ("uud", "udud", 3, 1)]:
            told, again = reached(*asked), reached(*asked)
            self.assertIsNot(told, again)
            field = "moves" if type(told) is Way else "pairs"
            kept = list(getattr(again, field))
            self.assertIsNot(getattr(told, field), getattr(again, field))
            getattr(told, field).insert(0, "changed")
            self.assertEqual(getattr(again, field), kept)
            self.assertEqual(getattr(reached(*asked), field), kept)


class WayShows(unittest.TestCase):
    def assert_shown(self, shown, moves, one, other, first, second):
        with self.subTest(moves=moves, one=one, other=other, first=first, second=second):
            self.assertIs(Way(moves).shows(one, other, first, second), shown)

    def test_made_by_hand(self):
        self.assert_shown(True, ["ff"], "u", "u", 1, 1)
        self.assert_shown(True, ["ff", "ff"], "ud", "ud", 2, 2)
        self.assert_shown(True, ["ff", "fb", "ff", "bb"], "udud", "uu", 2, 0)
        self.assert_shown(True, ["ff", "fb"], "ud", "u", 2, 0)
        self.assert_shown(True, ["ff", "bb", "ff"], "uu", "uu", 1, 1)
        self.assert_shown(True, ["ff", "fb", "ff", "ff"], "uduu", "uu", 4, 2)

    def test_moves_that_cannot_be_done(self):
        self.assert_shown(False, ["ff"], "u", "d", 1, 1)
        self.assert_shown(False, ["ff", "ff"], "ud", "u", 2, 0)
        self.assert_shown(False, ["bb", "ff"], "ud", "ud", 0, 0)
        self.assert_shown(False, ["ff", "ff", "bb"], "u", "u", 1, 1)
        self.assert_shown(False, ["fb", "bf"], "ud", "ud", 0, 0)
        self.assert_shown(False, ["ff", "bb"], "u", "d", 0, 0)
        self.assert_shown(False, ["ff", "bb"], "", "u", 0, 0)

    def test_beyond_the_foot_and_the_end(self):
        self.assert_shown(False, ["fb", "bf"], "ud", "du", 0, 0)
        self.assert_shown(False, ["bf", "fb"], "ud", "ud", 0, 0)
        self.assert_shown(False, ["ff", "fb", "bf", "bb", "bb", "ff"], "ud", "ud", 0, 0)
        self.assert_shown(False, ["ff", "ff", "ff", "bb"], "ud", "udu", 2, 2)

    def test_moves_that_lead_elsewhere(self):
        self.assert_shown(False, ["ff"], "uu", "uu", 2, 2)
        self.assert_shown(False, ["ff", "ff"], "uu", "uu", 1, 1)
        self.assert_shown(False, ["ff", "fb"], "ud", "ud", 2, 2)
        self.assert_shown(False, ["ff", "ff"], "ud", "ud", 0, 2)

    def test_no_moves(self):
        self.assert_shown(True, [], "", "", 0, 0)
        self.assert_shown(True, [], "ud", "du", 0, 0)
        self.assert_shown(False, [], "ud", "ud", 2, 2)
        self.assert_shown(False, [], "ud", "ud", 0, 2)

    def test_places_of_unlike_height(self):
        for one, other in itertools.product(["", "u", "ud", "uud", "ddu"], repeat=2):
            for first, second in all_pairs(one, other):
                if (first, second) not in like_pairs(one, other):
                    for moves in ([], ["ff"], ["ff"] * max(first, second), ["ff", "fb"], ["fb"], ["bf", "ff"]):
                        self.assert_shown(False, moves, one, other, first, second)

    def test_all_few_moves_on_short_ridges(self):
        lists = [list(moves) for count in range(5) for moves in itertools.product(ALL_MOVES, repeat=count)]
        for one, other in [("udud", "uudd"), ("ud", "udud"), ("duud", "ddu"), ("", "ud"), ("uuu", "uudu")]:
            for moves in lists:
                for first, second in all_pairs(one, other):
                    self.assertIs(
                        Way(moves).shows(one, other, first, second), is_way(moves, one, other, first, second)
                    )

    def test_told_ones_with_one_left_out_or_put_in(self):
        for one, other in [("uduudd", "uududd"), ("udud", "udud"), ("dudduu", "dduduu")]:
            for first, second in like_pairs(one, other):
                told = reached(one, other, first, second)
                if type(told) is Way:
                    for moves in with_one_left_out(told.moves) + with_one_put_in(told.moves, ALL_MOVES):
                        self.assert_shown(False, moves, one, other, first, second)

    def test_what_is_no_move_among_them(self):
        for value in ("", "f", "fff", "xx", "uu", "FF", None, 1):
            self.assert_shown(False, [value], "u", "u", 1, 1)

    def test_by_the_field_as_it_stands_then(self):
        way = reached("ud", "ud", 2, 2)
        self.assertIs(way.shows("ud", "ud", 2, 2), True)
        way.moves.pop()
        self.assertIs(way.shows("ud", "ud", 2, 2), False)
        self.assertIs(way.shows("ud", "ud", 1, 1), True)
        way.moves = ["ff", "fb"]
        self.assertIs(way.shows("ud", "ud", 2, 0), True)
        way.moves[1] = "ff"
        self.assertIs(way.shows("ud", "ud", 2, 0), False)
        self.assertIs(way.shows("ud", "ud", 2, 2), True)

    def test_the_field_stays(self):
        way = Way(["ff", "ff", "bb"])
        way.shows("uu", "uu", 1, 1)
        way.shows("u", "u", 1, 1)
        self.assertEqual(way.moves, ["ff", "ff", "bb"])


class ShutShows(unittest.TestCase):
    def assert_shown(self, shown, pairs, one, other, first, second):
        with self.subTest(pairs=pairs, one=one, other=other, first=first, second=second):
            self.assertIs(Shut(pairs).shows(one, other, first, second), shown)

    def test_made_by_hand(self):
        self.assert_shown(True, [(0, 0)], "ud", "du", 2, 2)
        self.assert_shown(True, [(0, 0), (0, 2)], "ud", "du", 2, 2)
        self.assert_shown(True, [(1, 1), (0, 0), (2, 0)], "ud", "uud", 1, 3)
        self.assert_shown(True, [(0, 0), (0, 0)], "", "ud", 0, 2)

    def test_pairs_that_are_left_by_a_move(self):
        self.assert_shown(False, [(0, 0)], "uu", "uu", 2, 2)
        self.assert_shown(False, [(0, 0), (1, 1)], "udu", "uud", 1, 3)
        self.assert_shown(False, [(0, 0), (1, 3)], *APART, 0, 2)

    def test_without_both_feet(self):
        self.assert_shown(False, [], "ud", "du", 2, 2)
        self.assert_shown(False, [(0, 2)], "ud", "du", 2, 2)
        self.assert_shown(False, [(2, 0), (0, 2)], "ud", "du", 2, 2)
        self.assert_shown(False, [], "", "", 0, 0)

    def test_with_the_two_places(self):
        self.assert_shown(False, [(0, 0), (2, 2)], "ud", "du", 2, 2)
        self.assert_shown(False, [(0, 0)], "ud", "du", 0, 0)
        self.assert_shown(False, [(0, 0)], "", "", 0, 0)

    def test_with_places_that_there_are_not(self):
        for pair in [(-1, 0), (0, -1), (-1, -1), (3, 0), (0, 3), (3, 3), (-2, 2), (2, -2), (HUGE, 0), (0, -HUGE)]:
            self.assert_shown(False, [(0, 0), pair], "ud", "du", 2, 2)
            self.assert_shown(False, [pair, (0, 0)], "ud", "du", 2, 2)
        self.assert_shown(False, [(0, 0), (0, 1)], "", "", 0, 0)
        self.assert_shown(False, [(0, 0), (2, 1)], "u", "du", 0, 2)
        self.assert_shown(False, [(0, 0), (1, 3)], "udud", "du", 2, 2)

    def test_pairs_of_unlike_height(self):
        self.assert_shown(True, [(0, 0), (2, 1)], "ud", "du", 2, 2)
        self.assert_shown(True, [(0, 0), (1, 2)], "ud", "du", 2, 2)
        self.assert_shown(True, [(0, 0), (2, 0)], "uu", "d", 1, 1)

    def test_a_move_from_a_pair_of_unlike_height_to_one_of_like_height(self):
        self.assert_shown(False, [(0, 0), (1, 1)], "ud", "du", 2, 2)
        self.assert_shown(False, [(0, 0), (2, 2)], *APART, 2, 1)
        self.assert_shown(False, [(0, 0), (2, 2), (1, 3)], *APART, 2, 1)
        self.assert_shown(True, [(0, 0), (2, 2), (1, 3), (0, 2)], *APART, 2, 1)
        self.assert_shown(True, [(0, 0), (1, 3), (0, 2)], *APART, 2, 2)

    def test_places_of_unlike_height(self):
        self.assert_shown(True, [(0, 0)], "ud", "du", 1, 1)
        self.assert_shown(True, [(0, 0), (1, 1), (2, 2), (0, 2), (2, 0)], "ud", "ud", 1, 2)
        self.assert_shown(False, [(0, 0), (1, 1), (2, 2), (0, 2)], "ud", "ud", 1, 2)
        self.assert_shown(False, [(0, 0), (1, 1)], "ud", "du", 1, 1)
        self.assert_shown(False, [(0, 2)], "ud", "du", 1, 1)
        self.assert_shown(False, [], "ud", "du", 1, 1)

    def test_true_and_false_are_no_numbers(self):
        self.assert_shown(False, [(False, False)], "ud", "du", 2, 2)
        self.assert_shown(False, [(0, 0), (0, False)], "ud", "du", 2, 2)
        self.assert_shown(False, [(0, 0), (True, 0)], "ud", "du", 2, 2)

    def test_what_is_no_pair_among_them(self):
        for value in [(), (0,), (0, 2, 0), [0, 0], "00", None, 0, (0, "0"), (None, 0), (0, 0.0), ([], [])]:
            self.assert_shown(False, [(0, 0), value], "ud", "du", 2, 2)

    def test_all_lists_of_pairs_on_short_ridges(self):
        for one, other in [("ud", "du"), ("ud", "ud"), ("uu", "d"), ("dd", "uu"), ("", "udu"), ("u", "udu")]:
            near = list(itertools.product(range(-1, len(one) + 2), range(-1, len(other) + 2)))
            there = all_pairs(one, other)
            lists = [list(some) for count in range(len(there) + 1) for some in itertools.combinations(there, count)]
            lists += [[(0, 0)] + list(some) for some in itertools.combinations(near, 2)]
            for pairs in lists:
                for first, second in there:
                    self.assertIs(
                        Shut(pairs).shows(one, other, first, second), is_shut(pairs, one, other, first, second),
                        (pairs, one, other, first, second),
                    )

    def test_told_ones_with_one_left_out_or_put_in(self):
        asked = 0
        for one, other in [("uuddud", "ududdu"), ("udud", "uudd"), ("ddu", "duddu"), ("ud", "du"), ("", "duud")]:
            for first, second in like_pairs(one, other):
                told = reached(one, other, first, second)
                if type(told) is Shut:
                    asked += 1
                    for pairs in with_one_left_out(told.pairs):
                        self.assert_shown(False, pairs, one, other, first, second)
                    self.assert_shown(False, told.pairs + [(first, second)], one, other, first, second)
                    for pairs in with_one_put_in(told.pairs, all_pairs(one, other)):
                        self.assert_shown(
                            is_shut(pairs, one, other, first, second), pairs, one, other, first, second
                        )
        self.assertGreater(asked, 10)

    def test_by_the_field_as_it_stands_then(self):
        shut = reached("ud", "du", 2, 2)
        self.assertIs(shut.shows("ud", "du", 2, 2), True)
        shut.pairs.append((2, 2))
        self.assertIs(shut.shows("ud", "du", 2, 2), False)
        shut.pairs = [(0, 0), (0, 2)]
        self.assertIs(shut.shows("ud", "du", 2, 2), True)
        self.assertIs(shut.shows("ud", "du", 0, 2), False)
        shut.pairs.clear()
        self.assertIs(shut.shows("ud", "du", 2, 2), False)

    def test_the_field_stays(self):
        shut = Shut([(0, 0), (0, 2), (0, 0)])
        shut.shows("ud", "du", 2, 2)
        shut.shows("ud", "du", 0, 2)
        self.assertEqual(shut.pairs, [(0, 0), (0, 2), (0, 0)])


class ReachedRefusals(Refusing):
    def test_what_is_no_ridge(self):
        for value in NO_RIDGES:
            with self.subTest(kind=type(value).__name__):
                self.assert_refused(BadRidge, reached, value, "ud", 0, 0)
                self.assert_refused(BadRidge, reached, "ud", value, 0, 0)
                self.assert_refused(BadRidge, reached, value, value, 0, 0)

    def test_what_is_no_place(self):
        for value in NO_PLACES + [3, 4]:
            with self.subTest(kind=type(value).__name__):
                for place in (0, 1, 2):
                    self.assert_refused(BadPlaces, reached, "ud", "ud", value, place)
                    self.assert_refused(BadPlaces, reached, "ud", "ud", place, value)
                self.assert_refused(BadPlaces, reached, "ud", "ud", value, value)

    def test_beyond_the_own_end_though_not_the_other_ones(self):
        self.assert_refused(BadPlaces, reached, "ud", "udud", 4, 4)
        self.assert_refused(BadPlaces, reached, "udud", "ud", 4, 4)
        self.assert_refused(BadPlaces, reached, "", "ud", 1, 1)
        self.assert_refused(BadPlaces, reached, "", "", 0, 1)

    def test_true_and_false_are_no_numbers(self):
        for value in (True, False):
            self.assert_refused(BadPlaces, reached, "ud", "ud", value, int(value))
            self.assert_refused(BadPlaces, reached, "ud", "ud", int(value), value)

    def test_unlike_heights(self):
        for one, other in itertools.product(ridges_up_to(3), repeat=2):
            for pair in set(all_pairs(one, other)) - set(like_pairs(one, other)):
                self.assert_refused(BadPlaces, reached, one, other, *pair)

    def test_bad_ridge_goes_ahead_of_bad_places(self):
        for first, second in [(-1, 0), (0, 9), (True, 0), ("0", None), (0, 1), ([], {})]:
            self.assert_refused(BadRidge, reached, "ux", "ud", first, second)
            self.assert_refused(BadRidge, reached, "ud", "ux", first, second)
            self.assert_refused(BadRidge, reached, None, "ud", first, second)
            self.assert_refused(BadRidge, reached, "ud", 5, first, second)


if __name__ == "__main__":
    unittest.main()
