"""Branches: what stays of some rooms without one of them, how many searchers a tree of rooms wants, and a way in it.

Rooms are handed about as rising tuples; near tells of each room of the house to which ones it has an open door.
"""


def neighbours(house, doors):
    """For each room the list of the rooms to which it has an open door."""
    near = [[] for room in range(house[0])]
    for door in doors:
        one, other = house[1][door]
        near[one].append(other)
        near[other].append(one)
    return near


def reached(near, rooms, starts):
    """The rising tuple of the rooms to which one can go from the starts, some of these, without leaving them."""
    found = {room: True for room in starts}
    waiting = list(starts)
    while waiting:
        room = waiting.pop()
        for other in near[room]:
            if other in rooms and other not in found:
                found[other] = True
                waiting.append(other)
    return tuple(sorted(found))


def branches(near, rooms, r):
    """The rising list of the parts of the rooms without r to which r has an open door."""
    others = tuple(room for room in rooms if room != r)
    return sorted({reached(near, others, (room,)) for room in near[r] if room in others})


def heavy(near, rooms, r, k):
    """The branches of the room r of a tree that want at least k searchers."""
    return [branch for branch in branches(near, rooms, r) if wants(near, branch, k)]


def is_fork(near, rooms, r, k):
    """Whether the room r of a tree has three branches that want at least k searchers."""
    # Few rooms have three doors: the others need not be looked at closely.
    return len(near[r]) >= 3 and len(heavy(near, rooms, r, k)) >= 3


def wants(near, rooms, k):
    """Whether the tree of these rooms wants at least k searchers, k from 1."""
    return k == 1 or any(is_fork(near, rooms, r, k - 1) for r in rooms)


def wanted(near, rooms):
    """How many searchers the tree of these rooms wants."""
    k = 1
    while wants(near, rooms, k + 1):
        k += 1
    return k


def further(near, rooms, ahead, room, k):
    """The rooms next to this one, but the one ahead, in whose branches at least k searchers are wanted."""
    found = heavy(near, rooms, room, k)
    return [other for other in near[room] if other != ahead and any(other in branch for branch in found)]


def arm(near, rooms, ahead, room, k):
    """The way from the room on, away from the one ahead, into all branches that want at least k searchers."""
    way = [ahead, room]
    onward = further(near, rooms, ahead, room, k)
    while onward:
        way.append(onward[0])
        onward = further(near, rooms, way[-2], way[-1], k)
    return way[1:]


def way_through(near, rooms):
    """A way in the tree of these rooms, all branches off which want fewer searchers than the tree.

    No room has three branches that want as many. If one has two, each next room of the way has one of them behind it,
    so at most one ahead; if none has two, there is at most one anyway.
    """
    k = wanted(near, rooms)
    start = max(rooms, key=lambda some: len(heavy(near, rooms, some, k)))
    way = [start]
    for room in further(near, rooms, None, start, k):
        way = way[::-1] + arm(near, rooms, start, room, k)
    return way
