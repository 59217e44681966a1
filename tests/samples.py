"""What several tests ask with: ridges of all kinds, and values of other kinds."""

import itertools


class EqualToAll:
    """Equal to whatever it is held against, so that only its kind tells it apart."""

    def __eq__(self, other):
        return True

    __hash__ = None


def holding_itself():
    knot = []
    knot.append(knot)
    return knot


# Longer than Python is willing to write out: a refusal must not try to show it.
HUGE = 10 ** 5000

OTHER_KINDS = [
    None, True, False, 0, 1, -1, HUGE, 1.0, 1j, b"", b"ud", [], ["u"], ["u", "d"], (), ("u",), {}, {"u": "d"},
    set(), frozenset("ud"), object(), str, len, EqualToAll(), holding_itself(),
]

OTHER_TEXTS = ["x", "U", "D", "UD", "uD", " ", "u ", " d", "u\n", "udx", "xud", "uxd", "u,d", "f", "b", "\u00fc",
               "ud\x00", "\ud800", "\uff55"]

NO_RIDGES = OTHER_KINDS + OTHER_TEXTS


def ridges_up_to(length):
    return ["".join(steps) for count in range(length + 1) for steps in itertools.product("ud", repeat=count)]


def height_of(ridge, place):
    return ridge[:place].count("u") - ridge[:place].count("d")


def is_climb(ridge):
    top = height_of(ridge, len(ridge))
    return all(0 <= height_of(ridge, place) <= top for place in range(len(ridge) + 1))


def climbs_up_to(length):
    return [ridge for ridge in ridges_up_to(length) if is_climb(ridge)]


def like_pairs(one, other):
    return [
        (first, second)
        for first in range(len(one) + 1)
        for second in range(len(other) + 1)
        if height_of(one, first) == height_of(other, second)
    ]
