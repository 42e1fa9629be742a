"""Sweeps: searchers come to rooms, walk and go; which rooms are foul behind that."""

from bellplaces.branches import neighbours, reached
from bellplaces.errors import NoMove
from bellplaces.kinds import are_below

SIZES = {"post": 2, "take": 2, "walk": 3}


def can_be(near, held, move):
    """Whether the move can be, held telling how many searchers are in each room."""
    if move[0] == "post":
        return True
    if held[move[1]] == 0:
        return False
    return move[0] == "take" or move[2] in near[move[1]]


def carry_out(held, move):
    """Change how many searchers are in each room by the move."""
    if move[0] != "post":
        held[move[1]] -= 1
    if move[0] != "take":
        held[move[-1]] += 1


def spread(near, held, foul):
    """The rooms that are foul behind a move, where these were so ahead of it."""
    free = tuple(room for room, many in enumerate(held) if many == 0)
    return reached(near, free, [room for room in foul if room in free])


def swept(house, doors, moves):
    """The foul rooms behind all moves, and how many searchers were there at once at most; refused with NoMove."""
    near = neighbours(house, doors)
    held = [0] * house[0]
    foul = tuple(range(house[0]))
    most = 0
    for at, move in enumerate(moves):
        if not can_be(near, held, move):
            raise NoMove(at)
        carry_out(held, move)
        foul = spread(near, held, foul)
        most = max(most, sum(held))
    return foul, most


def is_move(thing, rooms):
    """Whether it, of whatever kind, is a move in a house of so many rooms, be it one that can be or not."""
    if not isinstance(thing, tuple) or len(thing) < 1:
        return False
    word = thing[0]
    if not isinstance(word, str) or word not in SIZES or len(thing) != SIZES[word]:
        return False
    return are_below(thing[1:], rooms)


def shows_sweep(house, doors, many, thing):
    """Whether the thing, of whatever kind, is moves that leave no room foul, with at most so many searchers at once."""
    if not isinstance(thing, tuple) or not all(is_move(move, house[0]) for move in thing):
        return False
    try:
        foul, most = swept(house, doors, thing)
    except NoMove:
        return False
    return foul == () and most <= many
