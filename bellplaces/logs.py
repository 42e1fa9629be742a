"""The log: looks, doors and sights in their order; which doors are open, and the rooms that they join."""

LOGGED = ("look", "open", "seen", "shut")


def log(rows):
    """The rising tuple of the looks, opens, sights and shuts among the rows."""
    return tuple(sorted(row for row in rows if row[1] in LOGGED))


def open_doors(rows):
    """The rising tuple of the doors that are open behind all these rows."""
    turned = {}
    for row in log(rows):
        if row[1] in ("open", "shut"):
            turned[row[2]] = row[1]
    return tuple(sorted(door for door in turned if turned[door] == "open"))


def parts(house, doors):
    """The rising tuple of the rising tuples of rooms that are joined by these doors."""
    rooms, pairs = house
    # Of each room the least room of its part.
    least = list(range(rooms))
    for door in doors:
        one, other = least[pairs[door][0]], least[pairs[door][1]]
        least = [min(one, other) if room in (one, other) else room for room in least]
    return tuple(tuple(room for room in range(rooms) if least[room] == first) for first in sorted(set(least)))
