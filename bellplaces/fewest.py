"""The fewest searchers that sweep a house whose parts are trees and rings, shown by a sweep and a tower."""

from bellplaces.branches import branches, heavy, is_fork, neighbours, wanted, way_through
from bellplaces.errors import NoKind
from bellplaces.logs import parts


def sort_of(near, part):
    """What kind_of tells of any room of the part."""
    sizes = [len(near[room]) for room in part]
    # Each door is counted by both its rooms.
    if sum(sizes) == 2 * (len(part) - 1):
        return "tree"
    return "ring" if all(size == 2 for size in sizes) else "other"


def kind_of(house, doors, room):
    """Whether the part in which the room is is a "tree", a "ring", or "other"."""
    near = neighbours(house, doors)
    return [sort_of(near, part) for part in parts(house, doors) if room in part][0]


def plain_parts(house, doors):
    """The parts of the house; refused with NoKind where one is neither a tree nor a ring."""
    near = neighbours(house, doors)
    found = parts(house, doors)
    for part in found:
        if sort_of(near, part) == "other":
            raise NoKind(part[0])
    return found


def wanted_in(near, part):
    """How many searchers the part, a tree or a ring, wants."""
    return 2 if sort_of(near, part) == "ring" else wanted(near, part)


def fewest(house, doors):
    """The least number of searchers with which there is a sweep: they go from part to part; refused with NoKind."""
    near = neighbours(house, doors)
    return max([wanted_in(near, part) for part in plain_parts(house, doors)])


def around(near, part):
    """The rooms of a ring in the order in which they are joined."""
    ring = [part[0]]
    onward = near[part[0]]
    while onward:
        ring.append(onward[0])
        onward = [room for room in near[ring[-1]] if room not in ring]
    return ring


def ring_moves(near, part):
    """Moves that sweep a ring: one searcher stays, another one walks around."""
    ring = around(near, part)
    walks = [("walk", ring[at], ring[at + 1]) for at in range(1, len(ring) - 1)]
    return [("post", ring[0]), ("post", ring[1])] + walks + [("take", ring[-1]), ("take", ring[0])]


def tree_moves(near, rooms):
    """Moves that sweep a tree: one searcher walks along a way, and stays in each room until its branches are swept."""
    way = way_through(near, rooms)
    moves = []
    for at, room in enumerate(way):
        moves.append(("post", room) if at == 0 else ("walk", way[at - 1], room))
        for branch in branches(near, rooms, room):
            if not any(other in branch for other in way):
                moves += tree_moves(near, branch)
    return moves + [("take", way[-1])]


def sweep(house, doors):
    """A sweep with as few searchers at once as can be; refused with NoKind."""
    near = neighbours(house, doors)
    moves = []
    for part in plain_parts(house, doors):
        moves += ring_moves(near, part) if sort_of(near, part) == "ring" else tree_moves(near, part)
    return tuple(moves)


def tree_tower(near, rooms, k):
    """A tower k high in a tree that wants at least k searchers."""
    if k == 1:
        return "room", rooms[0]
    r = [room for room in rooms if is_fork(near, rooms, room, k - 1)][0]
    one, two, three = [tree_tower(near, branch, k - 1) for branch in heavy(near, rooms, r, k - 1)[:3]]
    return "fork", r, one, two, three


def tower(house, doors):
    """A tower as high as the fewest searchers are many; refused with NoKind."""
    near = neighbours(house, doors)
    part = max(plain_parts(house, doors), key=lambda some: wanted_in(near, some))
    if sort_of(near, part) == "ring":
        return tuple(["ring"] + around(near, part))
    return tree_tower(near, part, wanted(near, part))
