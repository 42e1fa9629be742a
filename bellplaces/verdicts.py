"""Verdicts: who is there in each world that fits, who lacks in each, of whom both can be; and how many are where."""

from bellplaces.cases import shows_none, shows_world
from bellplaces.errors import NoWorld
from bellplaces.fits import fit


def replaced(items, at, item):
    """The tuple, but that another item stands there."""
    return items[:at] + (item,) + items[at + 1:]


def must(case, i):
    """The case but that person i must be there."""
    ups, counts, people = case
    return ups, counts, replaced(people, i, (people[i][0], True))


def away(case, i):
    """The case but that person i may come nowhere."""
    ups, counts, people = case
    return ups, counts, replaced(people, i, ((), people[i][1]))


def counted(case, v, n):
    """The case but that the place v, which has no count, is counted as n."""
    ups, counts, people = case
    return ups, replaced(counts, v, n), people


def some_world(case):
    """A world that fits; refused with NoWorld where there is none."""
    word, found = fit(case)
    if word == "none":
        raise NoWorld(found)
    return found


def verdict(case, i):
    """What the worlds that fit tell of person i; one of them tells half of it, so the other half alone is tried."""
    world = some_world(case)
    if world[i] is None:
        word, found = fit(must(case, i))
        return ("lacks", found) if word == "none" else ("open", found, world)
    word, found = fit(away(case, i))
    return ("there", found) if word == "none" else ("open", world, found)


def shows_both(case, i, one, other):
    """Whether these things, of whatever kind, are worlds that fit, person i there in the one, lacking in the other."""
    if not shows_world(case, one) or not shows_world(case, other):
        return False
    return one[i] is not None and other[i] is None


def shows_verdict(case, i, thing):
    """Whether the thing, of whatever kind, is a verdict of person i, shown by its paper or its worlds."""
    if not isinstance(thing, tuple) or len(thing) < 2 or not isinstance(thing[0], str):
        return False
    word, rest = thing[0], thing[1:]
    if word == "lacks":
        return len(rest) == 1 and shows_none(must(case, i), rest[0])
    if word == "there":
        return len(rest) == 1 and shows_none(away(case, i), rest[0])
    return word == "open" and len(rest) == 2 and shows_both(case, i, rest[0], rest[1])


def fits_some(case):
    """Whether some world fits."""
    return fit(case)[0] == "world"


def span(case, v):
    """The least and the greatest number of people at v's beneath in worlds that fit."""
    ups, counts, people = case
    some_world(case)
    if counts[v] is not None:
        return counts[v], counts[v]
    numbers = [n for n in range(len(people) + 1) if fits_some(counted(case, v, n))]
    return numbers[0], numbers[-1]


def world_with(case, v, n):
    """A world that fits with n people at v's beneath, v without a count; refused with NoWorld."""
    return some_world(counted(case, v, n))
