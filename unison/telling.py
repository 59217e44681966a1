"""Whether two who walk from both feet on can come to two places: a way there, or pairs that they never leave."""

from unison.moves import MOVES, TAKEN_BACK, are_alike, can_be_done, check_places, is_move, is_place, led_to
from unison.ridges import heights


class Answer:
    pass


class Way(Answer):
    def __init__(self, moves):
        self.moves = list(moves)

    def shows(self, one, other, first, second):
        levels = heights(one)
        other_levels = heights(other)
        pair = (0, 0)
        for move in self.moves:
            if not is_move(move) or not can_be_done(levels, other_levels, pair[0], pair[1], move):
                return False
            pair = led_to(pair[0], pair[1], move)
        return pair == (first, second)


class Shut(Answer):
    def __init__(self, pairs):
        self.pairs = list(pairs)

    def shows(self, one, other, first, second):
        levels = heights(one)
        other_levels = heights(other)
        if not all([is_pair(levels, other_levels, value) for value in self.pairs]):
            return False
        known = dict([(pair, True) for pair in self.pairs])
        if (0, 0) not in known or (first, second) in known:
            return False
        return all([len(pairs_outside(levels, other_levels, pair, known)) == 0 for pair in self.pairs])


def is_pair(levels, other_levels, value):
    if not isinstance(value, tuple) or len(value) != 2:
        return False
    return is_place(levels, value[0]) and is_place(other_levels, value[1])


# Asked at places of unlike height too: from two steps apart one step of each may make them alike.
def pairs_outside(levels, other_levels, pair, known):
    near = [led_to(pair[0], pair[1], move) for move in MOVES]
    return [there for there in near if there not in known and are_alike(levels, other_levels, there[0], there[1])]


# Each pair is kept with the move that came to it first, so that a way can be walked back from it.
def explored(levels, other_levels, goal):
    came_by = {(0, 0): None}
    newest = [(0, 0)]
    while len(newest) > 0 and goal not in came_by:
        newest = explored_next(levels, other_levels, newest, came_by)
    return came_by


def explored_next(levels, other_levels, newest, came_by):
    found = []
    for pair in newest:
        for move in MOVES:
            there = led_to(pair[0], pair[1], move)
            if there not in came_by and are_alike(levels, other_levels, there[0], there[1]):
                came_by[there] = move
                found.append(there)
    return found


def moves_to(goal, came_by):
    moves = []
    pair = goal
    while pair != (0, 0):
        move = came_by[pair]
        moves.append(move)
        pair = led_to(pair[0], pair[1], TAKEN_BACK[move])
    return moves[::-1]


def reached(one, other, first, second):
    levels = heights(one)
    other_levels = heights(other)
    check_places(levels, other_levels, first, second)
    came_by = explored(levels, other_levels, (first, second))
    if (first, second) in came_by:
        return Way(moves_to((first, second), came_by))
    return Shut(list(came_by))
