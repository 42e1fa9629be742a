"""Things of every kind, and what the tests ask of all that is told."""

import copy


class Strange:
    """An object that won't be compared, hashed, measured or tested for truth."""

    __hash__ = None

    def __eq__(self, other):
        raise AssertionError("compared")

    def __lt__(self, other):
        raise AssertionError("compared")

    def __bool__(self):
        raise AssertionError("tested")

    def __len__(self):
        raise AssertionError("measured")

    def __iter__(self):
        raise AssertionError("iterated")


def nested(bottom, depth, wrap):
    """The bottom, wrapped so many times."""
    thing = bottom
    for turn in range(depth):
        thing = wrap(thing)
    return thing


def deep_things():
    """Things of mixed kinds, nested forty deep."""
    return [
        nested(0, 40, lambda x: (x,)),
        nested((), 39, lambda x: (0, x)),
        nested((), 39, lambda x: (x, None, 1)),
        nested(None, 40, lambda x: [x]),
        nested("a", 40, lambda x: {"k": x}),
        nested(True, 20, lambda x: [(x,)]),
        nested(Strange(), 20, lambda x: (1, {"k": x})),
    ]


def wrong_kinds():
    """Things that are neither a whole number nor a tuple nor None."""
    return [
        True, False, "", "0", "bell", "count", b"", b"\x00", [], [0], [None], [(0, 1)], {}, {0: 1}, {"a": (1,)},
        set(), {0}, frozenset(), frozenset([0]), range(3), Strange(), Strange, len, object(), nested, lambda: 0,
        ValueError("no"), iter(()), Ellipsis, NotImplemented, bytearray(b"a"),
    ]


def all_things():
    """Things of every kind."""
    return wrong_kinds() + deep_things() + [
        None, -1, 0, 1, 2, 5, 30, 31, 10 ** 11, 10 ** 12 - 1, -(10 ** 11), 10 ** 40,
        (), (0,), (1,), (0, 0), (0, 1), (1, 0), (None,), ((),), ((), ()), (0, ()), ((0, 1),), ("bell",),
        (True,), (False,), (0, True), ([],), (Strange(),), (Strange(), Strange(), Strange()),
        (0, Strange()), (0, Strange(), 1, 0), (0, [], 1), (0, {}, 1, 0), (0, "bell", Strange(), Strange()),
    ]


def things_but(*fine):
    """Things of every kind but these; told apart by how they are shown, since some won't be compared."""
    shown = [repr(thing) for thing in fine]
    return [thing for thing in all_things() if repr(thing) not in shown]


def is_told(thing):
    """Whether it is made of nothing but tuples, whole numbers, texts, truths and None."""
    if type(thing) is tuple:
        return all(is_told(part) for part in thing)
    return thing is None or type(thing) in (int, str, bool)


def is_whole_tuple(thing):
    """Whether it is a plain tuple of plain whole numbers."""
    return type(thing) is tuple and all(type(part) is int for part in thing)


def swapped(whole, at, part):
    """The tuple with another part at that place."""
    return whole[:at] + (part,) + whole[at + 1:]


class Unchanged:
    """Fails its test if what is handed in within the block is changed by it."""

    def __init__(self, test, *things):
        self.test = test
        self.things = things

    def __enter__(self):
        self.before = copy.deepcopy(self.things)

    def __exit__(self, kind, value, trace):
        if kind is None:
            self.test.assertEqual(self.things, self.before)
            self.test.assertEqual(repr(self.things), repr(self.before))


def otherwise(thing, leaves=()):
    """The thing with one part of it otherwise, at every depth; some of these are the same as it was.

    Leaves are put, beside others, in the place of what is no tuple.
    """
    if type(thing) is not tuple:
        yield from leaves
        yield from [None, True, False, -1, 0, 1, 2, 99, 10 ** 40, "", "few", "many", "lacks", "there", "open", b"few",
                    (), (0,), (thing,), [thing], {}, Strange()]
        return
    yield list(thing)
    yield (thing,)
    for at, part in enumerate(thing):
        yield thing[:at] + thing[at + 1:]
        for other in otherwise(part, leaves):
            yield swapped(thing, at, other)
        for more in (None, 0, part):
            yield thing[:at] + (more,) + thing[at:]
            yield thing + (more,)
