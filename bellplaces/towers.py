"""Towers: rooms, rings and forks; no house is swept by fewer searchers than a tower in it is high."""

from bellplaces.branches import branches, neighbours
from bellplaces.kinds import is_whole


def are_of(things, rooms):
    """Whether these things, of whatever kind, are all numbers of these rooms."""
    return all(is_whole(thing) and thing in rooms for thing in things)


def is_ring(near, ring):
    """Whether these rooms are three or more unlike ones, each joined to the one ahead, the first one to the last."""
    if len(ring) < 3 or len(set(ring)) != len(ring):
        return False
    return all(ring[at] in near[ring[at - 1]] for at in range(len(ring)))


def first_room(thing):
    """The room that is named first by what may be a tower, or None."""
    if not isinstance(thing, tuple) or len(thing) < 2 or not is_whole(thing[1]):
        return None
    return thing[1]


def stands_in(parted, thing):
    """Those of the parts, at most one, in which what may be a tower has its first room."""
    return [part for part in parted if first_room(thing) in part]


def fork_height(near, rooms, r, towers):
    """How high the fork is that has r and these three things, of whatever kind, for its towers; 0 if it is none."""
    parted = branches(near, rooms, r)
    found = [part for thing in towers for part in stands_in(parted, thing)]
    # Asked ahead of all else, so that no room is looked at twice, however often one thing is nested in another.
    if len(set(found)) != 3:
        return 0
    heights = [height(near, part, thing) for part, thing in zip(found, towers)]
    return heights[0] + 1 if heights[0] > 0 and min(heights) == max(heights) else 0


def height(near, rooms, thing):
    """How high a tower the thing, of whatever kind, is that stands in these rooms; 0 if it is none."""
    if not isinstance(thing, tuple) or len(thing) < 2 or not isinstance(thing[0], str):
        return 0
    word = thing[0]
    if word == "room":
        return 1 if len(thing) == 2 and are_of(thing[1:], rooms) else 0
    if word == "ring":
        return 2 if are_of(thing[1:], rooms) and is_ring(near, thing[1:]) else 0
    if word == "fork" and len(thing) == 5 and are_of(thing[1:2], rooms):
        return fork_height(near, rooms, thing[1], thing[2:])
    return 0


def shows_tower(house, doors, many, thing):
    """Whether the thing, of whatever kind, is a tower so high in the house."""
    found = height(neighbours(house, doors), tuple(range(house[0])), thing)
    return found > 0 and found == many
