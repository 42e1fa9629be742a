"""Who of those who are there takes which post, and what shows a post bare."""

from bellplaces.kinds import is_rising


def people_of(posts, there, numbers):
    """The people who are there of the rows of these posts, all together."""
    return [p for p in there if any(p in posts[k] for k in numbers)]


def take(rows, holders, q, tried):
    """Whether post q can be taken, too, the others staying taken; holders, by people, is then so changed.

    Who was tried once need not be tried again: what hinders it then hinders it still.
    """
    for p in rows[q]:
        if p not in tried:
            tried[p] = True
            if p not in holders or take(rows, holders, holders[p], tried):
                holders[p] = q
                return True
    return False


def takable(rows):
    """The rising list of the posts that are taken if each, in order, is taken where it can be.

    No other way takes more posts: a post that can't be taken along with taken ones ahead can't be so later on.
    """
    holders = {}
    for q in range(len(rows)):
        take(rows, holders, q, {})
    return sorted(holders.values())


def with_one(rows, q, p):
    """The rows, but that q's is p alone."""
    return [[p] if k == q else row for k, row in enumerate(rows)]


def spared(rows, taken, q):
    """The earliest of q's row with whom the taken posts can all be taken."""
    return [p for p in rows[q] if takable(with_one(rows, q, p)) == taken][0]


def manned(posts, there):
    """For each post who takes it, or None."""
    rows = [[p for p in post if p in there] for post in posts]
    taken = takable(rows)
    rows = [row if q in taken else [] for q, row in enumerate(rows)]
    for q in taken:
        rows = with_one(rows, q, spared(rows, taken, q))
    return tuple(row[0] if row else None for row in rows)


def shows_bare(posts, there, way, q, thing):
    """Whether the thing, of whatever kind, is posts that want one more than are there of their rows, q the bare one."""
    if not is_rising(thing, len(posts)) or len(thing) == 0 or thing[-1] != q:
        return False
    if way[q] is not None or any(way[k] is None for k in thing[:-1]):
        return False
    return len(people_of(posts, there, thing)) == len(thing) - 1


def bare_paper(posts, there, q):
    """Posts that show q bare, which is bare by what manned tells.

    They are q, those held by people of its row, those held by people of these rows, and so on.
    None of these stands behind q, for else q could be taken instead of it.
    """
    way = manned(posts, there)
    paper = [q]
    size = 0
    while size < len(paper):
        size = len(paper)
        people = people_of(posts, there, paper)
        paper = [k for k in range(len(posts)) if k == q or way[k] in people]
    return tuple(paper)
