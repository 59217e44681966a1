"""Moves of two who stand on two ridges at places of like height."""

from unison.errors import BadMoves, BadPlaces
from unison.ridges import heights

MOVES = ("ff", "fb", "bf", "bb")
TAKEN_BACK = {"ff": "bb", "fb": "bf", "bf": "fb", "bb": "ff"}
STEPS = {"f": 1, "b": -1}


# True and False count as int for Python, but they are no numbers here.
def is_place(levels, value):
    return isinstance(value, int) and not isinstance(value, bool) and 0 <= value < len(levels)


# Two ridges are taken as their heights here, so that who asks at many places counts them once.
def are_alike(levels, other_levels, first, second):
    if not 0 <= first < len(levels) or not 0 <= second < len(other_levels):
        return False
    return levels[first] == other_levels[second]


def check_places(levels, other_levels, first, second):
    there = is_place(levels, first) and is_place(other_levels, second)
    if not there or not are_alike(levels, other_levels, first, second):
        raise BadPlaces("two places are whole numbers, on the ridges and of like height")


def led_to(first, second, move):
    return (first + STEPS[move[0]], second + STEPS[move[1]])


def can_be_done(levels, other_levels, first, second, move):
    pair = led_to(first, second, move)
    return are_alike(levels, other_levels, pair[0], pair[1])


def moves_at(one, other, first, second):
    levels = heights(one)
    other_levels = heights(other)
    check_places(levels, other_levels, first, second)
    return [move for move in MOVES if can_be_done(levels, other_levels, first, second, move)]


# A text is asked for first: a value of another kind may be equal to whatever it likes.
def is_move(value):
    return isinstance(value, str) and value in MOVES


def check_moves(values):
    if not isinstance(values, list) or not all([is_move(value) for value in values]):
        raise BadMoves("moves are a list of the texts ff, fb, bf and bb")


# Only the last move kept can be taken back by the next one, so one walk leaves no such two.
def thinned(moves):
    check_moves(moves)
    kept = []
    for move in moves:
        if len(kept) > 0 and TAKEN_BACK[kept[-1]] == move:
            kept.pop()
        else:
            kept.append(move)
    return kept
