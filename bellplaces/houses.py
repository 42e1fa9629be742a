"""Houses: rooms, and doors between them."""

from bellplaces.kinds import is_from, is_rising, rises

MOST_ROOMS = 45
MOST_DOORS = 60


def is_door(thing, rooms):
    """Whether it is a pair of two of so many rooms, the lesser one first."""
    return is_rising(thing, rooms) and len(thing) == 2


def are_doors(thing, rooms):
    """Whether it is the doors of a house of so many rooms."""
    if not isinstance(thing, tuple) or len(thing) > MOST_DOORS:
        return False
    return all(is_door(door, rooms) for door in thing) and rises(thing)


def is_house(thing):
    """Whether it, of whatever kind, is a house."""
    if not isinstance(thing, tuple) or len(thing) != 2:
        return False
    rooms, doors = thing
    return is_from(rooms, 1) and rooms <= MOST_ROOMS and are_doors(doors, rooms)
