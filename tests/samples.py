"""What several tests ask with: ridges of all kinds, values of other kinds, and walks held against the heights."""

import itertools
import unittest

from unison.errors import RidgeError

ALL_MOVES = ["ff", "fb", "bf", "bb"]
BACK = {"ff": "bb", "bb": "ff", "fb": "bf", "bf": "fb"}
STEP = {"f": 1, "b": -1}


class EqualToAll:
    """Equal to whatever it is held against, so that only its kind tells it apart."""

    def __eq__(self, other):
        return True

    __hash__ = None


def holding_itself():
    knot = []
    knot.append(knot)
    return knot


# Longer than Python is willing to write out: a refusal must not try to show it.
HUGE = 10 ** 5000

OTHER_KINDS = [
    None, True, False, 0, 1, -1, HUGE, 1.0, 1j, b"", b"ud", [], ["u"], ["u", "d"], (), ("u",), {}, {"u": "d"},
    set(), frozenset("ud"), object(), str, len, EqualToAll(), holding_itself(),
]

OTHER_TEXTS = ["x", "U", "D", "UD", "uD", " ", "u ", " d", "u\n", "udx", "xud", "uxd", "u,d", "f", "b", "\u00fc",
               "ud\x00", "\ud800", "\uff55"]

NO_RIDGES = OTHER_KINDS + OTHER_TEXTS

# No place of any ridge of these tests.
NO_PLACES = [value for value in OTHER_KINDS if type(value) is not int] + OTHER_TEXTS
NO_PLACES += ["", "0", "1", [0], (0,), 0.0, 2.0, -1, -2, -3, -HUGE, HUGE]


def ridges_up_to(length):
    return ["".join(steps) for count in range(length + 1) for steps in itertools.product("ud", repeat=count)]


def height_of(ridge, place):
    return ridge[:place].count("u") - ridge[:place].count("d")


def levels_of(ridge):
    return list(itertools.accumulate((1 if step == "u" else -1 for step in ridge), initial=0))


def is_climb(ridge):
    levels = levels_of(ridge)
    return all(0 <= level <= levels[-1] for level in levels)


def climbs_up_to(length):
    return [ridge for ridge in ridges_up_to(length) if is_climb(ridge)]


def like_pairs(one, other):
    return [
        (first, second)
        for first, level in enumerate(levels_of(one))
        for second, other_level in enumerate(levels_of(other))
        if level == other_level
    ]


def led_to(first, second, move):
    return first + STEP[move[0]], second + STEP[move[1]]


def all_ranges(length):
    return [ridge for ridge in ridges_up_to(length) if levels_of(ridge)[-1] == 0 and min(levels_of(ridge)) == 0]


def made_climb(height, steps, number):
    """A climb that wanders for so many steps below its top before it goes up; each number makes another one."""
    level, climb = 0, ""
    for _ in range(steps if height > 0 else 0):
        number = (number * 1103515245 + 12345) % 2 ** 31
        up = level == 0 or (level < height and number // 2 ** 16 % 2 == 0)
        level += 1 if up else -1
        climb += "u" if up else "d"
    return climb + "u" * (height - level)


def walked(one, other, moves):
    """The pairs of places that moves lead to from both feet on, or None if one can't be done."""
    levels, other_levels = levels_of(one), levels_of(other)
    pairs = [(0, 0)]
    for move in moves:
        first, second = led_to(*pairs[-1], move)
        if not (0 <= first <= len(one) and 0 <= second <= len(other) and levels[first] == other_levels[second]):
            return None
        pairs.append((first, second))
    return pairs


def is_way(moves, one, other, first, second):
    pairs = walked(one, other, moves)
    return pairs is not None and pairs[-1] == (first, second)


def is_shut(pairs, one, other, first, second):
    there = set(itertools.product(range(len(one) + 1), range(len(other) + 1)))
    alike = set(like_pairs(one, other))
    next_ones = {led_to(*pair, move) for pair in pairs for move in ALL_MOVES} & alike
    kept = set(pairs)
    return kept <= there and (0, 0) in kept and (first, second) not in kept and next_ones <= kept


class Refusing(unittest.TestCase):
    def assert_refused(self, refusal, ask, *values):
        with self.assertRaises(refusal) as caught:
            ask(*values)
        self.assertIs(type(caught.exception), refusal)
        self.assertIsInstance(caught.exception, RidgeError)
        self.assertIsInstance(caught.exception, ValueError)
