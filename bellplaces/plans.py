"""Plans: how many people, the tree of places, and for each watch who may come where."""

from bellplaces.kinds import are_below, is_below, is_from

MOST_PEOPLE = 30
MOST_PLACES = 20
MOST_WATCHES = 6
MOST_POSTS = 6
MOST_OF_POST = 4


def is_many_people(thing):
    """Whether it is how many people a plan may have."""
    return is_from(thing, 1) and thing <= MOST_PEOPLE


def are_ups(thing):
    """Whether it tells for each place the one above it, as a plan does."""
    if not isinstance(thing, tuple) or len(thing) < 1 or len(thing) > MOST_PLACES:
        return False
    return thing[0] is None and all(is_below(thing[v], v) for v in range(1, len(thing)))


def is_post(thing, people):
    """Whether it is a post of some of so many people."""
    if not are_below(thing, people) or len(thing) < 1 or len(thing) > MOST_OF_POST:
        return False
    return len(set(thing)) == len(thing)


def are_posts(thing, people):
    """Whether it is what a watch has for one place."""
    if not isinstance(thing, tuple) or len(thing) > MOST_POSTS:
        return False
    return all(is_post(post, people) for post in thing)


def is_watch(thing, people, places):
    """Whether it is a watch of so many people and places."""
    if not isinstance(thing, tuple) or len(thing) != places:
        return False
    return all(are_posts(posts, people) for posts in thing)


def are_watches(thing, people, places):
    """Whether it is the watches of a plan of so many people and places."""
    if not isinstance(thing, tuple) or len(thing) < 1 or len(thing) > MOST_WATCHES:
        return False
    return all(is_watch(watch, people, places) for watch in thing)


def is_plan(thing):
    """Whether it, of whatever kind, is a plan."""
    if not isinstance(thing, tuple) or len(thing) != 3:
        return False
    people, ups, watches = thing
    return is_many_people(people) and are_ups(ups) and are_watches(watches, people, len(ups))


def line_up(ups, v):
    """v, the place above it, and so on to 0."""
    line = []
    while v is not None:
        line.append(v)
        v = ups[v]
    return tuple(line)


def beneath(ups, v):
    """The rising tuple of v and all places under it, near or far."""
    return tuple(u for u in range(len(ups)) if v in line_up(ups, u))


def apart(ups, u, v):
    """Whether neither place is in the other's beneath."""
    return u not in line_up(ups, v) and v not in line_up(ups, u)


def may(plan, watch, p):
    """The rising tuple of the places in whose posts of that watch p is."""
    places = plan[2][watch]
    return tuple(v for v in range(len(places)) if any(p in post for post in places[v]))


def called(plan, watch):
    """The rising tuple of the people who may come to some place in that watch."""
    return tuple(p for p in range(plan[0]) if may(plan, watch, p) != ())


def alike(plan, one, other, v):
    """Whether two watches have the same posts at each place of v's beneath."""
    ups, watches = plan[1], plan[2]
    return all(watches[one][u] == watches[other][u] for u in beneath(ups, v))
