"""Rows: what is told from a house at a moment: bells, counts, looks, doors and sights."""

from bellplaces.kinds import is_below, is_from, is_rising


def is_bell(plan, house, rest):
    """Whether it is (b, watch)."""
    return len(rest) == 2 and is_from(rest[0], 1) and is_below(rest[1], len(plan[2]))


def is_count(plan, house, rest):
    """Whether it is (b, place, many, names)."""
    if len(rest) != 4:
        return False
    b, place, many, names = rest
    if not (is_from(b, 1) and is_below(place, len(plan[1])) and is_from(many, 0)):
        return False
    return is_rising(names, plan[0]) and len(names) <= many


def is_look(plan, house, rest):
    """Whether it is (room,)."""
    return len(rest) == 1 and is_below(rest[0], house[0])


def is_turn(plan, house, rest):
    """Whether it is (door,), as it stands in the rows of doors that are opened or shut."""
    return len(rest) == 1 and is_below(rest[0], len(house[1]))


def is_sight(plan, house, rest):
    """Whether it is (p, room)."""
    return len(rest) == 2 and is_below(rest[0], plan[0]) and is_below(rest[1], house[0])


FORMS = {"bell": is_bell, "count": is_count, "look": is_look, "open": is_turn, "seen": is_sight, "shut": is_turn}


def is_row(plan, house, thing):
    """Whether the thing, of whatever kind, is a row of this plan and this house."""
    if not isinstance(thing, tuple) or len(thing) < 2:
        return False
    moment, word = thing[0], thing[1]
    if not is_from(moment, 0) or not isinstance(word, str) or word not in FORMS:
        return False
    form = FORMS[word]
    return form(plan, house, thing[2:])
