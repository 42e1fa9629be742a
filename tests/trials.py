"""Trees, cases, plans and rows to try things with, the same ones each time, and what the document says of them.

The looks at worlds and papers here go by the document's words another way than the program goes.
"""

import itertools


def trees(places):
    """All ups of so many places."""
    for above in itertools.product(*(range(v) for v in range(1, places))):
        yield (None,) + above


def way_of(places):
    """The ups of places that stand in a way, each under the one ahead."""
    return (None,) + tuple(range(places - 1))


def star_of(places):
    """The ups of places that all stand under the first one."""
    return (None,) + (0,) * (places - 1)


def some_tree(chance, places):
    """A way, a star, or another tree."""
    sort = chance.choice(("way", "star", "any", "long"))
    if sort == "way":
        return way_of(places)
    if sort == "star":
        return star_of(places)
    reach = places if sort == "any" else 3
    return (None,) + tuple(chance.randrange(max(0, v - reach), v) for v in range(1, places))


def under(ups, v):
    """v, what is under it, what is under that, and so on."""
    found = {v}
    for u in range(v + 1, len(ups)):
        if ups[u] in found:
            found.add(u)
    return found


def numbers_of(ups, world):
    """How many are at each place's beneath, by adding each person to all places above."""
    numbers = [0] * len(ups)
    for place in world:
        while place is not None:
            numbers[place] += 1
            place = ups[place]
    return numbers


def all_worlds(case):
    """All worlds of the case that fit, by trying them all."""
    ups, counts, people = case
    spots = [may if must else may + (None,) for may, must in people]
    for world in itertools.product(*spots):
        if all(many in (None, number) for many, number in zip(counts, numbers_of(ups, world))):
            yield world


def is_paper(case, paper):
    """By the words, of a paper of the right form: whether it shows that no world fits."""
    ups, counts, people = case
    word, some = paper
    total = 0
    for v in range(len(ups)):
        inside, above = v in some, v > 0 and ups[v] in some
        if inside and not above:
            if word == "many" and counts[v] is None:
                return False
            total += counts[v] if counts[v] is not None else 0
        if above and not inside:
            if word == "few" and counts[v] is None:
                return False
            total -= counts[v] if counts[v] is not None else 0
    if word == "few":
        return total > sum(1 for may, must in people if set(may) & set(some))
    return total < sum(1 for may, must in people if must and not set(may) - set(some))


def some_people(chance, many, places, density, must):
    """Of so many people where they may come and whether they must, by how often each of it is so."""
    return tuple(
        (tuple(v for v in range(places) if chance.random() < density), chance.random() < must)
        for i in range(many)
    )


def some_case(chance, places, people):
    """A case of at most so many places and people; its counts come near to those of a world."""
    ups = some_tree(chance, chance.randint(1, places))
    called = some_people(chance, chance.randint(0, people), len(ups), chance.choice((0.1, 0.3, 0.6, 1)),
                         chance.choice((0, 0.3, 0.8)))
    world = [None if not may or (not must and chance.random() < 0.4) else chance.choice(may) for may, must in called]
    often = chance.choice((0.2, 0.5, 1))
    counts = []
    for number in numbers_of(ups, world):
        off = chance.choice((0,) * chance.choice((4, 60)) + (1, -1))
        counts.append(max(0, number + off) if chance.random() < often else None)
    return ups, tuple(counts), called


def small_cases(chance, many, places=4, people=4):
    """So many cases, of which all worlds can be tried."""
    return [some_case(chance, places, people) for turn in range(many)]


def some_plan(chance, people, places, watches):
    """A plan whose watches are alike but for a few places."""
    ups = some_tree(chance, places)
    first = [some_posts(chance, people) for v in range(places)]
    all_watches = [tuple(first)]
    while len(all_watches) < watches:
        watch = list(chance.choice(all_watches))
        for turn in range(chance.randint(0, 2)):
            watch[chance.randrange(places)] = some_posts(chance, people)
        all_watches.append(tuple(watch))
    return people, ups, tuple(all_watches)


def some_posts(chance, people):
    """The posts of one place."""
    return tuple(
        tuple(chance.sample(range(people), chance.randint(1, min(4, people))))
        for post in range(chance.choice((0, 1, 1, 2)))
    )


def some_rows(chance, plan, many, bells=4, moments=12, names=2):
    """So many bells and counts of the plan, most counts of the lower bells, as a rising tuple."""
    people, ups, watches = plan
    rows = set()
    while len(rows) < many:
        moment, b = chance.randrange(moments), chance.randint(1, bells)
        if chance.random() < 0.3:
            rows.add((moment, "bell", b, chance.randrange(len(watches))))
        else:
            number = chance.randint(0, 3)
            named = tuple(sorted(chance.sample(range(people), min(number, chance.randint(0, names), people))))
            rows.add((moment, "count", b, chance.randrange(len(ups)), number, named))
    return tuple(sorted(rows))


def some_house(chance, rooms):
    """A house of so many rooms with at most 60 doors."""
    pairs = list(itertools.combinations(range(rooms), 2))
    many = min(len(pairs), 60, chance.choice((rooms - 1, rooms, 2 * rooms)))
    return rooms, tuple(sorted(chance.sample(pairs, many)))


def some_log(chance, house, many, people=2, moments=8):
    """At most so many looks, opens, sights and shuts, and a bell and a count, as a rising tuple."""
    rows = {(1, "bell", 1, 0), (2, "count", 1, 0, 1, ())}
    for turn in range(many):
        moment, word = chance.randrange(moments), chance.choice(("look", "look", "open", "open", "seen", "shut"))
        if word == "look":
            rows.add((moment, word, chance.randrange(house[0])))
        elif word == "seen":
            rows.add((moment, word, chance.randrange(people), chance.randrange(house[0])))
        elif house[1]:
            rows.add((moment, word, chance.randrange(len(house[1]))))
    return tuple(sorted(rows))
