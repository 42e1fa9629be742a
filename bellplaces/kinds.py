"""What the modules ask of a thing of any kind, before they look into it."""


def is_whole(thing):
    """Whether it is a whole number: Python counts truths among the ints, the document doesn't."""
    return isinstance(thing, int) and not isinstance(thing, bool)


def is_from(thing, least):
    """Whether it is a whole number, at least so great."""
    return is_whole(thing) and thing >= least


def is_below(thing, limit):
    """Whether it is a number by which one of so many is called."""
    return is_from(thing, 0) and thing < limit


def are_below(thing, limit):
    """Whether it is a tuple, perhaps (), of numbers by which some of so many are called."""
    return isinstance(thing, tuple) and all(is_below(number, limit) for number in thing)


def rises(items):
    """Whether each of the items, which can be compared, is less than the next one."""
    return all(one < other for one, other in zip(items, items[1:]))


def is_rising(thing, limit):
    """Whether it is a rising tuple, perhaps (), of numbers by which some of so many are called."""
    return are_below(thing, limit) and rises(thing)
