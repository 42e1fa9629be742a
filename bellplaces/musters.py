"""Musters: what the counts in force for a bell tell of each person whom it calls."""

from bellplaces.force import bells, case_of
from bellplaces.plans import called
from bellplaces.verdicts import some_world, verdict


def told(plan, rows, b):
    """(p, word) for each person called; refused with NoBell, Crossed, NoWorld."""
    case = case_of(plan, rows, b)
    # Where nobody is called there is no verdict that could refuse.
    some_world(case)
    watch = dict(bells(rows))[b]
    return tuple((p, verdict(case, i)[0]) for i, p in enumerate(called(plan, watch)))


def lacking(plan, rows, b):
    """The rising tuple of those who lack; refused as told is."""
    return tuple(p for p, word in told(plan, rows, b) if word == "lacks")
