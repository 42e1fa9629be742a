"""Cases, their worlds, and papers that no world fits: what is one, of things of every kind."""

import itertools
import random
import unittest

from bellplaces.cases import is_case, number_at, shows_none, shows_world
from tests.things import (Strange, Unchanged, all_things, deep_things, is_told, nested, swapped, things_but,
                          wrong_kinds)
from tests.trials import all_worlds, is_paper, numbers_of, small_cases, some_case, star_of, trees, under, way_of

# 0 - (1 - (2, 3), 4). Four people: one of them must, one may come nowhere.
UPS = (None, 0, 1, 1, 0)
PEOPLE = (((1, 2), False), ((2, 3), True), ((0, 4), False), ((), False))
CASE = (UPS, (None, 2, None, 1, None), PEOPLE)


def subsets(items):
    """All rising tuples of some of the items."""
    for many in range(len(items) + 1):
        yield from itertools.combinations(items, many)


class TestIsCase(unittest.TestCase):
    def check(self, thing, wanted):
        self.assertIs(is_case(thing), wanted, repr(thing))

    def test_ordinary_cases(self):
        self.check(CASE, True)
        for ups in trees(4):
            self.check((ups, (None, 0, 3, None), PEOPLE[3:] + (((0, 3), True),)), True)

    def test_the_least_case(self):
        self.check(((None,), (None,), ()), True)
        self.check(((None,), (0,), ()), True)
        self.check(((), (), ()), False)

    def test_just_as_many_as_the_bounds_allow_and_one_more(self):
        person = (tuple(range(20)), True)
        for ups in (way_of(20), star_of(20)):
            self.check((ups, (10 ** 12 - 1,) * 20, (person,) * 30), True)
            self.check((ups, (None,) * 20, (person,) * 31), False)
        self.check((star_of(21), (None,) * 21, ()), False)
        self.check((way_of(21), (None,) * 21, ()), False)

    def test_things_of_every_kind(self):
        for thing in all_things():
            self.check(thing, False)

    def test_parts_more_or_fewer(self):
        self.check(CASE[:2], False)
        self.check(CASE + ((),), False)
        self.check(list(CASE), False)
        self.check((CASE,), False)

    def test_wrong_ups(self):
        for thing in all_things() + [list(UPS), UPS[:4], UPS + (0,), (None, 0, 1, 1, 5), (None, 0, 1, 1, 4)]:
            self.check((thing,) + CASE[1:], False)
        for at in range(5):
            for thing in things_but(None, 0, 1, 2):
                self.check((swapped(UPS, at, thing),) + CASE[1:], False)
        for ups in ((0, 0, 1, 1, 0), (None, None, 1, 1, 0), (None, 1, 1, 1, 0), (None, 0, True, 1, 0)):
            self.check((ups,) + CASE[1:], False)

    def test_wrong_counts(self):
        for thing in all_things() + [list(CASE[1]), CASE[1][:4], CASE[1] + (None,)]:
            self.check((UPS, thing, PEOPLE), False)
        for at in range(5):
            for thing in all_things():
                wanted = thing is None or (type(thing) is int and thing >= 0)
                self.check((UPS, swapped(CASE[1], at, thing), PEOPLE), wanted)
            self.check((UPS, swapped(CASE[1], at, -1), PEOPLE), False)
            self.check((UPS, swapped(CASE[1], at, True), PEOPLE), False)
            self.check((UPS, swapped(CASE[1], at, False), PEOPLE), False)

    def test_wrong_people(self):
        for thing in things_but(()) + [list(PEOPLE)]:
            self.check((UPS, CASE[1], thing), False)
        for at in range(4):
            for thing in all_things():
                self.check((UPS, CASE[1], swapped(PEOPLE, at, thing)), False)
            for thing in (list(PEOPLE[0]), PEOPLE[0][:1], PEOPLE[0] + (False,), (False, (1, 2)), ((1, 2), 1, 2)):
                self.check((UPS, CASE[1], swapped(PEOPLE, at, thing)), False)

    def test_wrong_may(self):
        for thing in things_but((), (0,), (1,), (0, 1)):
            self.check((UPS, CASE[1], ((thing, True),)), False)
        for may in ([1, 2], (2, 1), (1, 1), (1, 5), (-1, 1), (False, 1), (0, True), (1, None), (1, (2,)), "12", {1, 2}):
            self.check((UPS, CASE[1], PEOPLE + ((may, False),)), False)
        for thing in things_but(2):
            self.check((UPS, CASE[1], (((1, thing), False),)), False)
        self.check((UPS, CASE[1], (((0, 1, 2, 3, 4), False),)), True)

    def test_must_is_a_truth(self):
        for thing in things_but(True, False):
            self.check((UPS, CASE[1], (((1, 2), thing),)), False)
        for must in (True, False):
            self.check((UPS, CASE[1], (((1, 2), must),)), True)

    def test_handed_in_stays(self):
        for thing in (CASE, list(CASE), (list(UPS),) + CASE[1:], (UPS, [None], PEOPLE), (UPS, CASE[1], [[[]]])):
            with Unchanged(self, thing):
                first = is_case(thing)
            self.assertIs(is_case(thing), first)


class TestNumberAt(unittest.TestCase):
    def test_ordinary_numbers(self):
        world = (2, 3, 4, None, 1, 2)
        self.assertEqual([number_at(UPS, world, v) for v in range(5)], [5, 4, 2, 1, 1])

    def test_nobody(self):
        for v in range(5):
            self.assertEqual(number_at(UPS, (), v), 0)
            self.assertEqual(number_at(UPS, (None, None), v), 0)

    def test_all_small_worlds(self):
        for ups in trees(4):
            for world in itertools.product((None, 0, 1, 2, 3), repeat=3):
                told = [number_at(ups, world, v) for v in range(4)]
                self.assertEqual(told, numbers_of(ups, world))
                self.assertEqual(told, [sum(1 for at in world if at in under(ups, v)) for v in range(4)])
                self.assertTrue(is_told(tuple(told)))

    def test_great_trees(self):
        for ups in (way_of(20), star_of(20)):
            world = tuple(k % 20 for k in range(30))
            self.assertEqual([number_at(ups, world, v) for v in range(20)], numbers_of(ups, world))


class TestShowsWorld(unittest.TestCase):
    WORLD = (2, 3, None, None)

    def check(self, thing, wanted, case=CASE):
        self.assertIs(shows_world(case, thing), wanted, repr((case, thing)))

    def test_worlds_that_fit(self):
        for world in (self.WORLD, (1, 3, 4, None), (2, 3, 0, None)):
            self.check(world, True)

    def test_counts_that_do_not_fit(self):
        self.check((None, 3, None, None), False)
        self.check((2, 2, None, None), False)
        self.check((2, 2, 4, None), False)

    def test_places_where_they_may_not_come(self):
        case = (UPS, (None,) * 5, PEOPLE)
        self.check((2, 3, 4, None), True, case)
        for i, wrong in ((0, 0), (0, 3), (0, 4), (1, 1), (2, 2), (3, 0)):
            self.check(swapped((2, 3, 4, None), i, wrong), False, case)

    def test_who_must_does_not_lack(self):
        case = (UPS, (None,) * 5, PEOPLE)
        self.check((None, 2, None, None), True, case)
        self.check((None, None, None, None), False, case)

    def test_nobody(self):
        self.check((), True, ((None,), (None,), ()))
        self.check((), True, ((None,), (0,), ()))
        self.check((), False, ((None,), (1,), ()))
        self.check((None,), False, ((None,), (None,), ()))

    def test_parts_more_or_fewer(self):
        self.check(self.WORLD[:3], False)
        self.check(self.WORLD + (None,), False)
        self.check((), False)
        self.check((self.WORLD,), False)
        self.check(list(self.WORLD), False)

    def test_things_of_every_kind(self):
        for thing in all_things():
            self.check(thing, False)
        for thing in things_but(()):
            self.check(thing, False, ((None,), (None,), ()))

    def test_parts_of_every_kind(self):
        case = (UPS, (None,) * 5, PEOPLE)
        for i in range(4):
            for thing in all_things():
                may, must = PEOPLE[i]
                wanted = (thing is None and not must) or (type(thing) is int and thing in may)
                self.check(swapped((2, 3, 4, None), i, thing), wanted, case)

    def test_a_truth_for_a_number(self):
        case = ((None, 0), (None, None), (((0, 1), False),) * 2)
        self.check((1, 0), True, case)
        self.check((True, 0), False, case)
        self.check((1, False), False, case)

    def test_all_worlds_of_small_cases(self):
        for case in small_cases(random.Random(2), 300):
            fitting = set(all_worlds(case))
            spots = range(-1, len(case[0]) + 1)
            for world in itertools.product(*((None, *spots),) * min(3, len(case[2]))):
                world += (None,) * (len(case[2]) - len(world))
                self.check(world, world in fitting, case)
            for world in fitting:
                self.check(world, True, case)

    def test_handed_in_stays(self):
        for thing in (self.WORLD, list(self.WORLD), (2, [3], None, None), {"a": [1]}):
            with Unchanged(self, CASE, thing):
                first = shows_world(CASE, thing)
            self.assertIs(shows_world(CASE, thing), first)


class TestShowsNone(unittest.TestCase):
    def check(self, case, thing, wanted):
        self.assertIs(shows_none(case, thing), wanted, repr((case, thing)))

    def test_few_at_one_place(self):
        case = ((None,), (2,), (((0,), False), ((), False)))
        self.check(case, ("few", (0,)), True)
        self.check(((None,), (1,), case[2]), ("few", (0,)), False)
        self.check(((None,), (None,), case[2]), ("few", (0,)), False)

    def test_few_of_nobody(self):
        self.check(((None,), (1,), ()), ("few", (0,)), True)
        self.check(((None,), (0,), ()), ("few", (0,)), False)

    def test_few_less_those_that_enter(self):
        # Five at 0 and beneath, two of them beneath 1: three at 0 itself, to which two may come.
        people = (((0,), False), ((0, 1), False), ((1,), False), ((1,), False), ((1,), False))
        self.check(((None, 0), (5, 2), people), ("few", (0,)), True)
        self.check(((None, 0), (5, 3), people), ("few", (0,)), False)
        # Who enters must be counted.
        self.check(((None, 0), (5, None), people), ("few", (0,)), False)
        self.check(((None, 0), (6, None), people), ("few", (0, 1)), True)
        self.check(((None, 0), (5, None), people), ("few", (0, 1)), False)

    def test_few_of_several_that_leave(self):
        people = (((1, 2), False), ((1, 2), False), ((3,), False))
        case = (star_of(4), (None, 2, 1, None), people)
        self.check(case, ("few", (1, 2)), True)
        self.check(case, ("few", (1,)), False)
        self.check(case, ("few", (2,)), False)
        self.check(case, ("few", (1, 2, 3)), False)
        # One without a count comes to nought: here it adds nobody who may come.
        self.check((star_of(4), (None, 2, 1, None), people[:2]), ("few", (1, 2, 3)), True)
        # 0 has no count, and 3, which enters, neither.
        self.check((star_of(4), (None, 2, 1, None), people[:2]), ("few", (0, 1, 2)), False)

    def test_few_counts_each_person_once(self):
        people = (((1, 2), False), ((1, 2), True))
        self.check((star_of(3), (None, 1, 1), people), ("few", (1, 2)), False)
        self.check((star_of(3), (None, 2, 1), people), ("few", (1, 2)), True)

    def test_many_at_one_place(self):
        people = (((0,), True), ((0,), True), ((0,), False))
        self.check(((None,), (1,), people), ("many", (0,)), True)
        self.check(((None,), (2,), people), ("many", (0,)), False)
        self.check(((None,), (None,), people), ("many", (0,)), False)

    def test_many_with_those_who_may_come_nowhere(self):
        self.check(((None,), (None,), (((), True),)), ("many", ()), True)
        self.check(((None,), (None,), (((), False),)), ("many", ()), False)
        self.check(((None,), (None,), (((0,), True),)), ("many", ()), False)
        self.check(((None,), (1,), (((), True), ((0,), True))), ("many", (0,)), True)
        self.check(((None,), (None,), (((), True),)), ("few", ()), False)
        self.check(((None,), (None,), ()), ("many", ()), False)

    def test_many_only_of_those_who_may_come_nowhere_else(self):
        people = (((1,), True), ((1, 2), True))
        self.check((star_of(3), (None, 1, 0), people), ("many", (1,)), False)
        self.check((star_of(3), (None, 1, 0), people), ("many", (1, 2)), True)
        self.check((star_of(3), (None, 0, None), people), ("many", (1,)), True)

    def test_many_less_those_that_enter(self):
        # Three at 0 and beneath, two of them beneath 1: one at 0 itself, at which two must be.
        people = (((0,), True), ((0,), True))
        self.check(((None, 0), (3, 2), people), ("many", (0,)), True)
        self.check(((None, 0), (3, 1), people), ("many", (0,)), False)
        # One that enters without a count comes to nought.
        self.check(((None, 0), (1, None), people), ("many", (0,)), True)
        self.check(((None, 0), (2, None), people), ("many", (0,)), False)
        # Who leaves must be counted.
        self.check(((None, 0), (None, 2), people), ("many", (0,)), False)

    def test_entering_and_leaving_by_turns(self):
        # A way: 0 and 2 are of the set, 1 is not: it enters, 2 leaves, 3 enters.
        people = (((0, 2), False),) * 3
        for counts, wanted in (((5, 2, 3, 2), True), ((5, 3, 3, 2), False), ((5, 3, 4, 2), True), ((5, 2, 3, 3), False),
                               ((5, 2, None, 0), False), ((6, 2, None, 0), True), ((5, None, 3, 2), False),
                               ((5, 2, 3, None), False)):
            self.check((way_of(4), counts, people), ("few", (0, 2)), wanted)
        people = (((0, 2), True),) * 3
        for counts, wanted in (((3, 2, 2, 1), True), ((3, 2, 3, 1), False), ((3, 2, 3, 2), True), ((None, 2, 2, 1), False),
                               ((3, 2, None, 1), False), ((3, None, 0, None), False), ((2, None, 0, None), True)):
            self.check((way_of(4), counts, people), ("many", (0, 2)), wanted)

    def test_great_numbers(self):
        far = 10 ** 12 - 1
        self.check(((None, 0), (far, None), (((0,), False),)), ("few", (0, 1)), True)
        self.check(((None, 0), (far, far), (((0,), False),)), ("few", (0,)), False)
        self.check(((None, 0), (0, far), (((1,), True),)), ("many", (0,)), True)

    def test_all_papers_of_small_cases_by_the_words(self):
        shown = {"few": 0, "many": 0}
        for case in small_cases(random.Random(4), 400):
            fits = next(all_worlds(case), None) is not None
            found = False
            for word in ("few", "many"):
                for places in subsets(range(len(case[0]))):
                    wanted = is_paper(case, (word, places))
                    self.check(case, (word, places), wanted)
                    found = found or wanted
                    shown[word] += wanted
            # Where there is a paper no world fits; where no world fits there is one.
            self.assertIs(found, not fits)
        self.assertGreater(min(shown.values()), 50)

    def test_great_cases_by_the_words(self):
        chance = random.Random(8)
        for turn in range(200):
            case = some_case(chance, 20, 30)
            for word in ("few", "many"):
                often = chance.random()
                places = tuple(v for v in range(len(case[0])) if chance.random() < often)
                self.check(case, (word, places), is_paper(case, (word, places)))

    FEW = ((None, 0), (3, 3), ())
    MANY = ((None, 0), (0, 0), (((0, 1), True),))

    def test_wrong_forms(self):
        self.check(self.FEW, ("few", (0, 1)), True)
        self.check(self.MANY, ("many", (0, 1)), True)
        for case, word in ((self.FEW, "few"), (self.MANY, "many")):
            for thing in ([word, (0, 1)], (word,), (word, (0, 1), ()), (word, 0, 1), ((word, (0, 1)),), ((0, 1), word),
                          (word, [0, 1]), (word, (1, 0)), (word, (0, 0, 1)), (word, (0, 1, 1)), (word, (0, 1, 2)),
                          (word, (-1, 0, 1)), (word, (0, True)), (word, (False, 1)), (word, "01"), (word, {0, 1}),
                          (word, None), (word, 0), (word, (0, None)), (word, (0, "1")), (word, (0, (1,))),
                          (word.upper(), (0, 1)), (word + " ", (0, 1)), ("", (0, 1)), ("none", (0, 1)),
                          (word.encode(), (0, 1)), (None, (0, 1)), (0, (0, 1)), ((word,), (0, 1))):
                self.check(case, thing, False)

    def test_the_other_word(self):
        self.check(self.FEW, ("many", (0, 1)), False)
        self.check(self.MANY, ("few", (0, 1)), False)

    def test_things_of_every_kind(self):
        for case, word in ((self.FEW, "few"), (self.MANY, "many")):
            for thing in all_things():
                self.check(case, thing, False)
                self.check(case, (thing, (0, 1)), False)
                self.check(case, (word, (0, thing)), type(thing) is int and thing == 1)
                self.check(case, (word, (thing, 1)), type(thing) is int and thing == 0)
            for thing in wrong_kinds() + deep_things() + [nested((0, 1), 38, lambda x: (x,)), Strange()]:
                self.check(case, (word, thing), False)

    def test_handed_in_stays(self):
        for thing in (("few", (0, 1)), ["few", (0, 1)], ("few", [0, 1]), ("many", ([0], 1)), ({"a": [1]}, ())):
            with Unchanged(self, self.FEW, thing):
                first = shows_none(self.FEW, thing)
            self.assertIs(shows_none(self.FEW, thing), first)


if __name__ == "__main__":
    unittest.main()
