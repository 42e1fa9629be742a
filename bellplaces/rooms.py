"""Rooms in which a person can be, by the last sight of them, the doors and the looks since."""

from bellplaces.errors import NoRoom
from bellplaces.kinds import are_below, is_rising, is_whole
from bellplaces.logs import log, open_doors, parts


def parted(rows, p):
    """The log in two: up to the last sight of p, () where there is none, and what is behind it."""
    entries = log(rows)
    sights = [at for at, row in enumerate(entries) if row[1] == "seen" and row[2] == p]
    many = sights[-1] + 1 if sights else 0
    return entries[:many], entries[many:]


def joined(house, rows, some):
    """The rising tuple of the rooms that the doors open behind these rows join with one of some rooms."""
    near = [part for part in parts(house, open_doors(rows)) if any(room in part for room in some)]
    return tuple(sorted(room for part in near for room in part))


def first_rooms(house, ahead):
    """Where p can be right behind the last sight, with which the log so far ends; anywhere if it is ()."""
    if not ahead:
        return tuple(range(house[0]))
    return joined(house, ahead, (ahead[-1][3],))


def unfound(row, some):
    """Those of some rooms in which a person isn't found by the row."""
    return tuple(room for room in some if row[1] != "look" or row[2] != room)


def next_rooms(house, ahead, since, k, some):
    """Where p can be behind since[k], having been in one of some rooms when it came."""
    return joined(house, ahead + since[:k + 1], unfound(since[k], some))


def shows_trace(house, rows, p, thing):
    """Whether the thing, of whatever kind, is a trace of p."""
    ahead, since = parted(rows, p)
    if not are_below(thing, house[0]) or len(thing) != len(since) + 1:
        return False
    if thing[0] not in first_rooms(house, ahead):
        return False
    return all(thing[k + 1] in next_rooms(house, ahead, since, k, thing[k:k + 1]) for k in range(len(since)))


def bounds(house, rows, p):
    """The least bounds of p."""
    ahead, since = parted(rows, p)
    least = [first_rooms(house, ahead)]
    for k in range(len(since)):
        least.append(next_rooms(house, ahead, since, k, least[k]))
    return tuple(least)


def rooms_for(house, rows, p):
    """The rising tuple of the rooms in which p can be now."""
    return bounds(house, rows, p)[-1]


def trace(house, rows, p, room):
    """A trace of p that ends in the room; refused with NoRoom where, whatever the room is, there is none."""
    least = bounds(house, rows, p)
    if not is_whole(room) or room not in least[-1]:
        raise NoRoom("no trace ends there")
    ahead, since = parted(rows, p)
    way = (room,)
    for k in reversed(range(len(since))):
        near = joined(house, ahead + since[:k + 1], way[:1])
        way = (min([r for r in unfound(since[k], least[k]) if r in near]),) + way
    return way


def has_all(some, wanted):
    """Whether all the wanted rooms are among some."""
    return all(room in some for room in wanted)


def shows_bounds(house, rows, p, thing):
    """Whether the thing, of whatever kind, is bounds of p."""
    ahead, since = parted(rows, p)
    if not isinstance(thing, tuple) or len(thing) != len(since) + 1:
        return False
    if not all(is_rising(some, house[0]) for some in thing):
        return False
    if not has_all(thing[0], first_rooms(house, ahead)):
        return False
    return all(has_all(thing[k + 1], next_rooms(house, ahead, since, k, thing[k])) for k in range(len(since)))
