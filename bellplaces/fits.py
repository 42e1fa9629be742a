"""Whether a world fits a case.

People stream from outside to a place where they may come, from there up the tree, and from 0 outside again. Each arc
of this net has a least and a most that may stream through it. From nothing at all the stream is mended arc by arc;
where that can't be done, the nodes that are reached from the arc show a set of places that no world fits.
"""


def arcs_of(case):
    """The arcs of the net, as (tail, head, least, most), most None for any number.

    Its nodes are the places, behind them the people, behind them the outside. The places' arcs come lower ones first,
    so that what mends one mends those above it, too.
    """
    ups, counts, people = case
    outside = len(ups) + len(people)
    arcs = []
    for v in reversed(range(len(ups))):
        head = outside if v == 0 else ups[v]
        arcs.append((v, head, counts[v] or 0, counts[v]))
    for i, (may, must) in enumerate(people):
        node = len(ups) + i
        arcs.append((outside, node, 1 if must else 0, 1))
        for v in may:
            arcs.append((node, v, 0, None))
    return arcs


def steps_of(arcs, nodes):
    """For each node the steps from it: (arc's number, how its stream changes, node at the other end)."""
    steps = [[] for node in range(nodes)]
    for at, (tail, head, least, most) in enumerate(arcs):
        steps[tail].append((at, 1, head))
        steps[head].append((at, -1, tail))
    return steps


def can_change(arc, many, change):
    """Whether the stream of so many through the arc can change so; one that is below its least never sinks."""
    tail, head, least, most = arc
    if change > 0:
        return most is None or many < most
    return many > least


def reached_from(arcs, steps, stream, start):
    """All nodes to which the stream can be changed from start: how each is reached, (arc, change, node ahead)."""
    reached = {start: None}
    waiting = [start]
    while waiting:
        node = waiting.pop()
        for at, change, other in steps[node]:
            if other not in reached and can_change(arcs[at], stream[at], change):
                reached[other] = (at, change, node)
                waiting.append(other)
    return reached


def send_along(stream, reached, node):
    """Change the stream along the way by which the node is reached."""
    while reached[node] is not None:
        at, change, node = reached[node]
        stream[at] += change


def world_of(case, arcs, stream):
    """For each person the place to which they stream, or None."""
    ups, counts, people = case
    world = [None for person in people]
    for many, (tail, head, least, most) in zip(stream, arcs):
        if many > 0 and len(ups) <= tail and tail < len(ups) + len(people):
            world[tail - len(ups)] = head
    return tuple(world)


def paper_of(case, reached):
    """The paper that no world fits.

    All arcs out of the reached nodes stream at their most, all arcs into them at or below their least, one below it.
    """
    ups, counts, people = case
    outside = len(ups) + len(people)
    if outside in reached:
        return "few", tuple(v for v in range(len(ups)) if v not in reached)
    return "many", tuple(v for v in range(len(ups)) if v in reached)


def fit(case):
    """("world", world), one that fits the case, or ("none", paper), one that shows that none does."""
    arcs = arcs_of(case)
    steps = steps_of(arcs, len(case[0]) + len(case[2]) + 1)
    stream = [0 for arc in arcs]
    for at, (tail, head, least, most) in enumerate(arcs):
        while stream[at] < least:
            reached = reached_from(arcs, steps, stream, head)
            if tail not in reached:
                return "none", paper_of(case, reached)
            send_along(stream, reached, tail)
            stream[at] += 1
    return "world", world_of(case, arcs, stream)
