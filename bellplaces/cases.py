"""Cases: the tree of places, what was counted, who may come where; their worlds, and papers that none fits."""

from bellplaces.kinds import is_from, is_rising, is_whole
from bellplaces.plans import MOST_PEOPLE, are_ups, beneath


def are_counts(thing, places):
    """Whether it is a number from 0 or None for each of so many places."""
    if not isinstance(thing, tuple) or len(thing) != places:
        return False
    return all(many is None or is_from(many, 0) for many in thing)


def is_person(thing, places):
    """Whether it is (may, must) of a case of so many places."""
    if not isinstance(thing, tuple) or len(thing) != 2:
        return False
    return is_rising(thing[0], places) and isinstance(thing[1], bool)


def are_people(thing, places):
    """Whether it is the people, perhaps none, of a case of so many places."""
    if not isinstance(thing, tuple) or len(thing) > MOST_PEOPLE:
        return False
    return all(is_person(person, places) for person in thing)


def is_case(thing):
    """Whether it, of whatever kind, is a case."""
    if not isinstance(thing, tuple) or len(thing) != 3:
        return False
    ups, counts, people = thing
    return are_ups(ups) and are_counts(counts, len(ups)) and are_people(people, len(ups))


def number_at(ups, world, v):
    """How many people of the world are at the places of v's beneath."""
    under = beneath(ups, v)
    return len([place for place in world if place in under])


def can_be_at(person, thing):
    """Whether the thing, of whatever kind, is a place of this person's may, or None of one who may lack."""
    may, must = person
    if thing is None:
        return not must
    return is_whole(thing) and thing in may


def shows_world(case, thing):
    """Whether the thing, of whatever kind, is a world of the case that fits."""
    ups, counts, people = case
    if not isinstance(thing, tuple) or len(thing) != len(people):
        return False
    if not all(can_be_at(person, place) for person, place in zip(people, thing)):
        return False
    return all(many is None or number_at(ups, thing, v) == many for v, many in enumerate(counts))


def leaving(ups, places):
    """The places of these that leave them: the one above isn't one of them, as of 0, above which there is none."""
    return [v for v in places if ups[v] not in places]


def entering(ups, places):
    """The places that enter these: they aren't among them, but the one above is."""
    return [v for v in range(len(ups)) if v not in places and ups[v] in places]


def are_counted(counts, places):
    """Whether all these places are counted."""
    return all(counts[v] is not None for v in places)


def staying(case, places):
    """The counts of those that leave these places less the counts of those that enter, nought of one without."""
    ups, counts, people = case
    leave = sum(counts[v] or 0 for v in leaving(ups, places))
    enter = sum(counts[v] or 0 for v in entering(ups, places))
    return leave - enter


def shows_few(case, places):
    """Whether more people are counted at these places than may come to them."""
    ups, counts, people = case
    comers = [may for may, must in people if any(v in places for v in may)]
    return are_counted(counts, entering(ups, places)) and staying(case, places) > len(comers)


def shows_many(case, places):
    """Whether fewer people are counted at these places than must be there and may come nowhere else."""
    ups, counts, people = case
    bound = [may for may, must in people if must and all(v in places for v in may)]
    return are_counted(counts, leaving(ups, places)) and staying(case, places) < len(bound)


def shows_none(case, thing):
    """Whether the thing, of whatever kind, is a paper that no world fits the case."""
    if not isinstance(thing, tuple) or len(thing) != 2:
        return False
    word, places = thing
    if not isinstance(word, str) or not is_rising(places, len(case[0])):
        return False
    if word == "few":
        return shows_few(case, places)
    return word == "many" and shows_many(case, places)
