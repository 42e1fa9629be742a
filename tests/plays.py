"""Houses to sweep, and what the document says of moves and towers, another way than the program goes."""

import functools
import itertools

from tests.trials import trees


def whole(rooms, pairs):
    """A house with these doors, and the numbers of all its doors, as all are open."""
    house = (rooms, tuple(sorted(tuple(sorted(pair)) for pair in pairs)))
    return house, tuple(range(len(house[1])))


def tree_of(ups):
    """A house whose rooms stand as places of these ups, all doors open."""
    return whole(len(ups), [(ups[v], v) for v in range(1, len(ups))])


def way(rooms):
    """Rooms in a way, all doors open."""
    return whole(rooms, [(r, r + 1) for r in range(rooms - 1)])


def star(rooms):
    """A first room, joined to all others."""
    return whole(rooms, [(0, r) for r in range(1, rooms)])


def ring(rooms):
    """Rooms in a ring, all doors open."""
    return whole(rooms, [(r, (r + 1) % rooms) for r in range(rooms)])


def fork_pairs(height, first=0):
    """The doors of the least tree that wants so many searchers, its rooms from the first on; and how many rooms."""
    if height == 1:
        return [], 1
    pairs, many = [], 1
    for branch in range(3):
        more, size = fork_pairs(height - 1, first + many)
        pairs += more + [(first, first + many)]
        many += size
    return pairs, many


def fork(height):
    """The least tree that wants so many searchers."""
    pairs, many = fork_pairs(height)
    return whole(many, pairs)


def beside(*some):
    """One house of several ones, the rooms of each behind those of the ones ahead."""
    rooms, pairs = 0, []
    for (more, doors), numbers in some:
        pairs += [(rooms + doors[d][0], rooms + doors[d][1]) for d in numbers]
        rooms += more
    return whole(rooms, pairs)


def shuffled(chance, house):
    """The house, all of whose doors are open, with its rooms called by other numbers."""
    rooms = list(range(house[0]))
    chance.shuffle(rooms)
    return whole(house[0], [(rooms[a], rooms[b]) for a, b in house[1]])


def small_trees(most):
    """All trees of at most so many rooms, as houses, all doors open."""
    for rooms in range(1, most + 1):
        for ups in trees(rooms):
            yield tree_of(ups)


@functools.lru_cache(maxsize=None)
def all_joined(house, doors):
    """All (r, s) that an open door joins, either way round."""
    pairs = [house[1][door] for door in doors]
    return frozenset(pairs + [(b, a) for a, b in pairs])


def joins(house, doors, r, s):
    """Whether an open door joins two rooms."""
    return (r, s) in all_joined(house, doors)


def behind(house, doors, searchers, foul, move):
    """By the words: the searchers' rooms and the foul rooms behind a move, or None if it can't be."""
    searchers, foul = list(searchers), set(foul)
    if move[0] != "post":
        if move[1] not in searchers:
            return None
        searchers.remove(move[1])
    if move[0] == "walk" and not joins(house, doors, move[1], move[2]):
        return None
    if move[0] != "take":
        searchers.append(move[-1])
        foul.discard(move[-1])
    changed = True
    while changed:
        changed = False
        for room in range(house[0]):
            if room not in foul and room not in searchers and any(joins(house, doors, room, f) for f in foul):
                foul.add(room)
                changed = True
    return tuple(sorted(searchers)), frozenset(foul)


def played(house, doors, moves):
    """By the words: the foul rooms and how many were there at most; the number of the first move that can't be else."""
    state, most = ((), frozenset(range(house[0]))), 0
    for at, move in enumerate(moves):
        state = behind(house, doors, state[0], state[1], move)
        if state is None:
            return at
        most = max(most, len(state[0]))
    return tuple(sorted(state[1])), most


def is_plain_move(house, thing):
    """By the words, of anything: whether it is a move in the house."""
    if type(thing) is not tuple or not thing or type(thing[0]) is not str:
        return False
    if not all(type(part) is int and 0 <= part < house[0] for part in thing[1:]):
        return False
    return (thing[0], len(thing)) in (("post", 2), ("take", 2), ("walk", 3))


def is_plain_sweep(house, doors, many, thing):
    """By the words, of anything: whether it is a sweep with at most so many."""
    if type(thing) is not tuple or not all(is_plain_move(house, move) for move in thing):
        return False
    end = played(house, doors, thing)
    return type(end) is tuple and end[0] == () and end[1] <= many


def all_moves(house, doors, searchers, many):
    """All moves that can be where these searchers are, at most so many at once."""
    if len(searchers) < many:
        yield from [("post", room) for room in range(house[0])]
    for room in set(searchers):
        yield ("take", room)
        for door in doors:
            pair = house[1][door]
            if room in pair:
                yield ("walk", room, sum(pair) - room)


def can_sweep(house, doors, many):
    """Whether some play with at most so many searchers at once leaves no room foul, by trying all plays."""
    start = ((), frozenset(range(house[0])))
    known, waiting = {start}, [start]
    while waiting:
        searchers, foul = waiting.pop()
        for move in all_moves(house, doors, searchers, many):
            state = behind(house, doors, searchers, foul, move)
            if not state[1]:
                return True
            if state not in known:
                known.add(state)
                waiting.append(state)
    return False


def joined_rooms(house, doors, rooms):
    """The parts of these rooms, by the open doors between them."""
    parted = [{room} for room in rooms]
    for door in doors:
        a, b = house[1][door]
        if a in rooms and b in rooms:
            near = [part for part in parted if a in part or b in part]
            parted = [part for part in parted if part not in near] + [set().union(*near)]
    return parted


def heights(house, doors, rooms, thing):
    """By the words, of anything: the height of the tower in these rooms, None if it is none."""
    if type(thing) is not tuple or len(thing) < 2 or type(thing[0]) is not str:
        return None
    if thing[0] in ("room", "ring"):
        if not all(type(room) is int and room in rooms for room in thing[1:]):
            return None
        if thing[0] == "room":
            return 1 if len(thing) == 2 else None
        pairs = zip(thing[1:], thing[2:] + thing[1:2])
        good = len(set(thing[1:])) == len(thing) - 1 >= 3 and all(joins(house, doors, r, s) for r, s in pairs)
        return 2 if good else None
    if thing[0] != "fork" or len(thing) != 5 or type(thing[1]) is not int or thing[1] not in rooms:
        return None
    parted = [part for part in joined_rooms(house, doors, set(rooms) - {thing[1]})
              if any(joins(house, doors, thing[1], room) for room in part)]
    for one, two, three in itertools.permutations(parted, 3):
        high = heights(house, doors, one, thing[2])
        if high is not None and high == heights(house, doors, two, thing[3]) == heights(house, doors, three, thing[4]):
            return high + 1
    return None


def is_plain_tower(house, doors, many, thing):
    """By the words, of anything: whether it is a tower so high."""
    high = heights(house, doors, set(range(house[0])), thing)
    return high is not None and high == many
