"""Ranges: ridges that end at height 0 with no place below, and two who begin at the two ends."""

from unison.climbs import together
from unison.errors import BadRange
from unison.ridges import about, heights


def check_range(levels):
    if levels[-1] != 0 or min(levels) < 0:
        raise BadRange("a range ends at height 0 and has no place below")


# From either end up to a highest place the range is a climb, so the two can meet there.
def meeting(ridge):
    levels = heights(ridge)
    check_range(levels)
    highest = levels.index(max(levels))
    return together(ridge[:highest], about(ridge[highest:]))


# Once they have met, each goes back over what the other one has done; the other one's step forth, taken back, is
# a step forth too, since the two face one another, so only the letters change hands.
def changed(ridge):
    moves = meeting(ridge)
    return moves + [move[1] + move[0] for move in reversed(moves)]
