"""Counts in force: which counts stand for a bell, where they cross one another, and the case that they make."""

from bellplaces.errors import Crossed, NoBell
from bellplaces.plans import alike, apart, beneath, called, may


def bells(rows):
    """The rising tuple of (b, watch) for each bell that was rung."""
    last = {}
    for row in rows:
        if row[1] == "bell" and row > last.get(row[2], ()):
            last[row[2]] = row
    return tuple((b, last[b][3]) for b in sorted(last))


def rung_watches(rows, b):
    """The watch of each bell that was rung, by bells; refused with NoBell where b wasn't."""
    rung = dict(bells(rows))
    if b not in rung:
        raise NoBell("that bell was not rung")
    return rung


def stands(plan, rung, b, row):
    """Whether a count stands for bell b."""
    a, place = row[2], row[3]
    if a > b or a not in rung:
        return False
    watches = sorted({rung[c] for c in rung if a <= c and c <= b})
    return all(alike(plan, watch, rung[b], place) for watch in watches)


def when(row):
    """By what a place's counts are earlier and later: (bell, moment)."""
    return row[2], row[0]


def latest(counts):
    """The rising tuple of the last ones of these counts."""
    last = max([when(row) for row in counts], default=None)
    return tuple(sorted(row for row in counts if when(row) == last))


def last_counts(plan, rows, b):
    """For each place its last counts that stand for bell b, gone by or not."""
    rung = rung_watches(rows, b)
    counts = [row for row in rows if row[1] == "count" and stands(plan, rung, b, row)]
    return [latest([row for row in counts if row[3] == v]) for v in range(len(plan[1]))]


def is_gone_by(ups, last, v):
    """Whether a place under v has last counts that are later than v's own."""
    return any(when(last[u][0]) > when(last[v][0]) for u in beneath(ups, v) if last[u])


def standing(plan, rows, b):
    """For each place its counts in force."""
    last = last_counts(plan, rows, b)
    return tuple(() if counts and is_gone_by(plan[1], last, v) else counts for v, counts in enumerate(last))


def all_rows(held):
    """All counts of what standing tells, by places."""
    return [row for counts in held for row in counts]


def are_apart(ups, one, other):
    """Whether two counts are of places that are apart, that of one the lesser number."""
    return one[3] < other[3] and apart(ups, one[3], other[3])


def named_twice(ups, held):
    """What twice tells, of what standing tells."""
    force = all_rows(held)
    pairs = [(one, other) for one in force for other in force if are_apart(ups, one, other)]
    return tuple(sorted((p, one, other) for one, other in pairs for p in one[5] if p in other[5]))


def twice(plan, rows, b):
    """The rising tuple of (p, one, other) for each person whom two counts in force name that are apart."""
    return named_twice(plan[1], standing(plan, rows, b))


def can_come(plan, watch, p, place):
    """Whether p may come to some place of this one's beneath."""
    under = beneath(plan[1], place)
    return any(v in under for v in may(plan, watch, p))


def first_unlike(held):
    """("unlike", one, other) of the least place that has several counts in force, or None."""
    for counts in held:
        if len(counts) > 1:
            return "unlike", counts[0], counts[1]
    return None


def first_twice(plan, held):
    """("twice", p, one, other), the first that twice tells, or None."""
    found = named_twice(plan[1], held)
    return ("twice",) + found[0] if found else None


def first_stray(plan, watch, held):
    """("stray", p, row) of the least person whom a count in force names where they may not come, or None."""
    named = [(p, row[3], row) for row in all_rows(held) for p in row[5]]
    strays = [(p, place, row) for p, place, row in named if not can_come(plan, watch, p, place)]
    if not strays:
        return None
    p, place, row = min(strays)
    return "stray", p, row


def crossing(plan, rows, b):
    """What the counts in force have against one another or against the watch, the first one; else None."""
    watch = rung_watches(rows, b)[b]
    held = standing(plan, rows, b)
    return first_unlike(held) or first_twice(plan, held) or first_stray(plan, watch, held)


def person_of(plan, watch, force, p):
    """(may, must) of p, who can be only where each count in force that names them is."""
    unders = [beneath(plan[1], row[3]) for row in force if p in row[5]]
    places = tuple(v for v in may(plan, watch, p) if all(v in under for under in unders))
    return places, len(unders) > 0


def case_of(plan, rows, b):
    """The case of bell b; refused with Crossed where the counts in force cross."""
    why = crossing(plan, rows, b)
    if why is not None:
        raise Crossed(why)
    watch = rung_watches(rows, b)[b]
    held = standing(plan, rows, b)
    counts = tuple(force[0][4] if force else None for force in held)
    people = tuple(person_of(plan, watch, all_rows(held), p) for p in called(plan, watch))
    return plan[1], counts, people
