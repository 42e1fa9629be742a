"""Whether a world fits: what is told is tried by the looks at it and, for small cases, against all worlds."""

import itertools
import random
import unittest

from bellplaces.cases import is_case, shows_none, shows_world
from bellplaces.fits import fit
from bellplaces.force import bells, case_of, crossing
from tests.things import Unchanged, is_told
from tests.trials import (all_worlds, is_paper, numbers_of, small_cases, some_case, some_people, some_plan, some_rows,
                          some_tree, star_of, trees, way_of)

FAR = 10 ** 12 - 1


class TestFit(unittest.TestCase):
    def check(self, case, wanted=None):
        """Try what is told; wanted is the word that it must begin with, None if any will do."""
        with Unchanged(self, case):
            told = fit(case)
        self.assertTrue(is_told(told) and type(told) is tuple and len(told) == 2)
        self.assertIn(told[0], ("world", "none"))
        if told[0] == "world":
            self.assertIs(shows_world(case, told[1]), True, case)
            numbers = numbers_of(case[0], told[1])
            self.assertTrue(all(many in (None, number) for many, number in zip(case[1], numbers)), case)
        else:
            self.assertIs(shows_none(case, told[1]), True, (case, told))
            self.assertTrue(is_paper(case, told[1]), (case, told))
        if wanted is not None:
            self.assertEqual(told[0], wanted, case)
        self.assertEqual(fit(case), told)
        return told

    def test_nobody(self):
        self.check(((None,), (None,), ()), "world")
        self.check(((None,), (0,), ()), "world")
        self.assertEqual(self.check(((None,), (1,), ()), "none"), ("none", ("few", (0,))))
        self.check((way_of(20), (0,) * 20, ()), "world")
        self.check((way_of(20), (0,) * 19 + (1,), ()), "none")

    def test_one_person(self):
        self.check(((None,), (1,), (((0,), False),)), "world")
        self.check(((None,), (0,), (((0,), False),)), "world")
        self.check(((None,), (2,), (((0,), False),)), "none")
        self.check(((None,), (0,), (((0,), True),)), "none")
        self.check(((None,), (None,), (((0,), True),)), "world")

    def test_who_may_come_nowhere(self):
        self.check(((None,), (None,), (((), False),)), "world")
        self.check(((None,), (1,), (((), False),)), "none")
        self.assertEqual(self.check(((None,), (None,), (((), True),)), "none"), ("none", ("many", ())))

    def test_someone_gives_way(self):
        # Person 0 may come to both places, person 1 only to the first one.
        people = (((1, 2), False), ((1,), False))
        self.assertEqual(self.check((star_of(3), (None, 1, 1), people), "world"), ("world", (2, 1)))
        self.check((star_of(3), (1, 1, 1), people), "none")
        self.check((star_of(3), (None, 0, 2), people), "none")

    def test_gives_way_along_a_chain(self):
        people = tuple(((v, v + 1), False) for v in range(1, 19)) + (((1,), False),)
        counts = (None,) + (1,) * 19
        told = self.check((star_of(20), counts, people), "world")
        self.assertEqual(told[1], tuple(range(2, 20)) + (1,))
        self.check((star_of(20), counts, people[:-1] + (((), False),)), "none")
        self.check((star_of(20), counts, people[::-1]), "world")

    def test_a_way_of_counts(self):
        people = (((19,), False),) * 30
        self.check((way_of(20), (30,) * 20, people), "world")
        self.check((way_of(20), (30,) * 19 + (29,), people), "none")
        self.check((way_of(20), (29,) + (30,) * 19, people), "none")
        self.check((way_of(20), (None,) * 10 + (17,) + (None,) * 9, people), "world")
        everywhere = ((tuple(range(20)), True),) * 30
        self.check((way_of(20), tuple(30 - v for v in range(20)), everywhere), "world")
        self.check((way_of(20), tuple(29 - v for v in range(20)), everywhere), "none")

    def test_a_count_below_is_more_than_the_one_above(self):
        people = (((0, 1, 2), False),) * 5
        self.check((way_of(3), (2, None, 3), people), "none")
        self.check((way_of(3), (3, None, 3), people), "world")
        self.check((star_of(3), (3, 2, 2), people), "none")
        self.check((star_of(3), (5, 2, 2), people), "world")

    def test_great_numbers(self):
        people = (((0, 1), False),) * 30
        for counts in ((FAR, None), (None, FAR), (FAR, FAR), (FAR, FAR - 30), (FAR, FAR - 31), (0, FAR), (FAR, 0)):
            self.check(((None, 0), counts, people), "none")
        self.check((way_of(20), (FAR,) * 20, ((tuple(range(20)), True),) * 30), "none")
        self.check((star_of(20), (None,) + (FAR,) * 19, ((tuple(range(20)), True),) * 30), "none")

    def test_all_cases_of_two_people_in_three_places(self):
        mays = [(), (0,), (1,), (2,), (0, 1), (1, 2), (0, 1, 2)]
        people = list(itertools.product(mays, (False, True)))
        for ups in trees(3):
            for counts in itertools.product((None, 0, 1, 2), repeat=3):
                for one, other in itertools.islice(itertools.product(people, people), 0, None, 3):
                    case = (ups, counts, (one, other))
                    told = fit(case)
                    if told[0] == "world":
                        self.assertTrue(shows_world(case, told[1]), case)
                    else:
                        self.assertTrue(is_paper(case, told[1]), case)
                        self.assertIsNone(next(all_worlds(case), None), case)

    def test_small_cases_against_all_worlds(self):
        found = {"world": 0, "none": 0, "few": 0, "many": 0}
        for case in small_cases(random.Random(11), 1500, 5, 5):
            fits = next(all_worlds(case), None) is not None
            told = self.check(case, "world" if fits else "none")
            found[told[0]] += 1
            if told[0] == "none":
                found[told[1][0]] += 1
        self.assertGreater(min(found.values()), 50)

    def test_great_cases(self):
        chance = random.Random(12)
        found = {"world": 0, "none": 0}
        for turn in range(300):
            case = some_case(chance, 20, 30)
            self.assertTrue(is_case(case))
            found[self.check(case)[0]] += 1
        self.assertGreater(min(found.values()), 30)

    def test_great_cases_in_which_a_world_fits(self):
        chance = random.Random(13)
        for turn in range(200):
            ups = some_tree(chance, 20)
            people = [(may, must and may != ()) for may, must in
                      some_people(chance, 30, 20, chance.choice((0.05, 0.2, 0.7)), 0.3)]
            world = [chance.choice(may) if must or (may and chance.random() < 0.8) else None for may, must in people]
            counts = tuple(n if chance.random() < 0.8 else None for n in numbers_of(ups, world))
            self.check((ups, counts, tuple(people)), "world")

    def test_great_cases_of_which_one_place_lacks_one(self):
        # All people are wanted just where they may come, but for one place that wants one more.
        for ups in (way_of(20), star_of(20), (None,) + tuple((v - 1) // 2 for v in range(1, 20))):
            people = tuple(((k % 20,), False) for k in range(30))
            numbers = numbers_of(ups, [may[0] for may, must in people])
            self.check((ups, tuple(numbers), people), "world")
            for v in range(20):
                more = tuple(n + (u == v) for u, n in enumerate(numbers))
                self.check((ups, more, people), "none")
                must = tuple((may, True) for may, must in people)
                fewer = tuple(max(0, n - (u == v)) for u, n in enumerate(numbers))
                self.check((ups, fewer, must), "none" if numbers[v] else "world")

    def test_cases_of_bells(self):
        chance = random.Random(14)
        tried = 0
        for turn in range(200):
            plan = some_plan(chance, 8, 5, 2)
            rows = some_rows(chance, plan, 6, 2, 20, 1)
            for b, watch in bells(rows):
                if crossing(plan, rows, b) is None:
                    self.check(case_of(plan, rows, b))
                    tried += 1
        self.assertGreater(tried, 50)


if __name__ == "__main__":
    unittest.main()
