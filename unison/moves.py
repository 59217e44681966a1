"""Moves of two who stand on two ridges at places of like height."""

from unison.errors import BadMoves, BadPlaces
from unison.ridges import heights

MOVES = ("ff", "fb", "bf", "bb")
TAKEN_BACK = {"ff": "bb", "fb": "bf", "bf": "fb", "bb": "ff"}


# True and False count as int for Python, but they are no numbers here.
def is_place(levels, value):
    return isinstance(value, int) and not isinstance(value, bool) and 0 <= value < len(levels)


# Two ridges are taken as their heights here, so that who asks at many places counts them once.
def are_alike(levels, other_levels, first, second):
    if not is_place(levels, first) or not is_place(other_levels, second):
        return False
    return levels[first] == other_levels[second]


def stepped(place, letter):
    return place + 1 if letter == "f" else place - 1


def can_be_done(levels, other_levels, first, second, move):
    return are_alike(levels, other_levels, stepped(first, move[0]), stepped(second, move[1]))


def moves_at(one, other, first, second):
    levels = heights(one)
    other_levels = heights(other)
    if not are_alike(levels, other_levels, first, second):
        raise BadPlaces("two places are whole numbers, on the ridges and of like height")
    return [move for move in MOVES if can_be_done(levels, other_levels, first, second, move)]


# A text is asked for first: a value of another kind may be equal to whatever it likes.
def is_move(value):
    return isinstance(value, str) and value in MOVES


def check_moves(values):
    if not isinstance(values, list) or not all([is_move(value) for value in values]):
        raise BadMoves("moves are a list of the texts ff, fb, bf and bb")


# Only the last move kept can be taken back by the next one, so one walk leaves no such two.
def thinned(moves):
    check_moves(moves)
    kept = []
    for move in moves:
        if len(kept) > 0 and TAKEN_BACK[kept[-1]] == move:
            kept.pop()
        else:
            kept.append(move)
    return kept
