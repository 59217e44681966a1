"""Climbs: ridges with no place below the foot or above the end; all who climb can do so at like height."""

from unison.errors import BadClimb, Unlike
from unison.ridges import heights
from unison.telling import reached

# The steps of a ridge and the letters of a word alike, so that both can be walked back over.
UNDONE = {"u": "d", "d": "u", "f": "b", "b": "f"}


def height_of_top(climb):
    levels = heights(climb)
    if min(levels) < 0 or max(levels) > levels[-1]:
        raise BadClimb("a climb has no place below its foot or above its end")
    return levels[-1]


def check_alike(tops):
    if min(tops) != max(tops):
        raise Unlike("the tops of the climbs are of unlike height")


# Of two such climbs a way to both tops is always told, never a shut.
def together(one, other):
    check_alike([height_of_top(one), height_of_top(other)])
    return reached(one, other, len(one), len(other)).moves


def check_climbs(values):
    if not isinstance(values, list) or len(values) == 0:
        raise BadClimb("climbs are a list of one at least")
    check_alike([height_of_top(value) for value in values])


def gone_along(line, word):
    place = 0
    gone = []
    for letter in word:
        if letter == "f":
            gone.append(line[place])
            place += 1
        else:
            place -= 1
            gone.append(UNDONE[line[place]])
    return "".join(gone)


# What all up to here have walked in unison is a climb itself, so the next one need only go together with it.
def in_unison(climbs):
    check_climbs(climbs)
    walked = climbs[0]
    words = ["f" * len(walked)]
    for climb in climbs[1:]:
        moves = together(walked, climb)
        word = "".join([move[0] for move in moves])
        words = [gone_along(earlier, word) for earlier in words]
        words.append("".join([move[1] for move in moves]))
        walked = gone_along(walked, word)
    return words
