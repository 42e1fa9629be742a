"""Musters: what is told of each person whom a bell calls, and which refusal comes first."""

import itertools
import random
import unittest

from bellplaces.books import Book
from bellplaces.cases import shows_none
from bellplaces.errors import Crossed, NoBell, NoWorld
from bellplaces.force import bells, case_of, crossing
from bellplaces.musters import lacking, told
from bellplaces.plans import called
from tests.things import Unchanged, is_told
from tests.trials import all_worlds, is_paper, some_plan, some_rows

# 0 - (1, 2). Watch 0: persons 1 and 2 at place 1, 2 and 4 at place 2, 5 at place 0; 0 and 3 aren't called.
# Watch 1 is like it, but that nobody is called to place 0. Watch 2 calls nobody.
UPS = (None, 0, 0)
DAY = (((5,),), ((1, 2),), ((4, 2),))
PLAN = (6, UPS, (DAY, ((),) + DAY[1:], ((), (), ())))
BELL = (0, "bell", 1, 0)
ASKED = (told, lacking)


def count(moment, b, place, many, *names):
    """A row of a count."""
    return (moment, "count", b, place, many, names)


def trials():
    """Plans and rows, the same ones each time."""
    chance = random.Random(31)
    for turn in range(400):
        plan = some_plan(chance, chance.randint(1, 6), chance.randint(1, 4), 2)
        yield plan, some_rows(chance, plan, chance.randint(1, 8), 2, 20, 1)


class TestTold(unittest.TestCase):
    def check(self, rows, wanted, b=1):
        rows = tuple(sorted(rows))
        words = told(PLAN, rows, b)
        self.assertEqual(words, wanted)
        self.assertTrue(is_told(words))
        self.assertEqual(lacking(PLAN, rows, b), tuple(p for p, word in wanted if word == "lacks"))
        self.assertTrue(is_told(lacking(PLAN, rows, b)))

    def test_nothing_is_counted(self):
        self.check((BELL,), ((1, "open"), (2, "open"), (4, "open"), (5, "open")))

    def test_little_is_counted(self):
        self.check((BELL, count(1, 1, 1, 1)), ((1, "open"), (2, "open"), (4, "open"), (5, "open")))
        self.check((BELL, count(1, 1, 1, 2)), ((1, "there"), (2, "there"), (4, "open"), (5, "open")))
        self.check((BELL, count(1, 1, 1, 1, 2)), ((1, "lacks"), (2, "there"), (4, "open"), (5, "open")))
        self.check((BELL, count(1, 1, 1, 0)), ((1, "lacks"), (2, "open"), (4, "open"), (5, "open")))
        self.check((BELL, count(1, 1, 2, 2)), ((1, "open"), (2, "there"), (4, "there"), (5, "open")))

    def test_all_is_counted(self):
        self.check((BELL, count(1, 1, 0, 4)), ((1, "there"), (2, "there"), (4, "there"), (5, "there")))
        self.check((BELL, count(1, 1, 0, 0)), ((1, "lacks"), (2, "lacks"), (4, "lacks"), (5, "lacks")))
        self.check((BELL, count(1, 1, 0, 3), count(1, 1, 1, 1, 1), count(1, 1, 2, 2)),
                   ((1, "there"), (2, "there"), (4, "there"), (5, "lacks")))
        self.check((BELL, count(1, 1, 0, 3, 5), count(1, 1, 1, 1), count(1, 1, 2, 1, 4)),
                   ((1, "open"), (2, "open"), (4, "there"), (5, "there")))

    def test_taken_up_by_a_second_bell(self):
        rows = (BELL, count(1, 1, 1, 1, 2), count(1, 1, 0, 2), (5, "bell", 2, 1))
        self.check(rows, ((1, "lacks"), (2, "there"), (4, "open"), (5, "open")), 1)
        self.check(rows, ((1, "lacks"), (2, "there"), (4, "open")), 2)

    def test_nobody_is_called(self):
        self.check(((0, "bell", 1, 2),), ())
        self.check(((0, "bell", 1, 2), count(1, 1, 0, 0)), ())

    def test_by_all_worlds(self):
        found = {"there": 0, "lacks": 0, "open": 0}
        for plan, rows in trials():
            for b, watch in bells(rows):
                if crossing(plan, rows, b) is not None:
                    continue
                worlds = list(all_worlds(case_of(plan, rows, b)))
                if not worlds:
                    continue
                words = told(plan, rows, b)
                self.assertEqual(tuple(p for p, word in words), called(plan, watch))
                for i, (p, word) in enumerate(words):
                    lacks = {world[i] is None for world in worlds}
                    self.assertEqual(word, "open" if len(lacks) == 2 else "lacks" if True in lacks else "there")
                    found[word] += 1
                self.assertEqual(lacking(plan, rows, b), tuple(p for p, word in words if word == "lacks"))
                self.assertTrue(is_told(words) and is_told(lacking(plan, rows, b)))
        self.assertGreater(min(found.values()), 50)


class TestRefused(unittest.TestCase):
    CROSSED = (BELL, count(1, 1, 1, 1), count(1, 1, 1, 9))
    NONE = (BELL, count(1, 1, 1, 3))

    def test_no_bell(self):
        for rows in ((), (BELL,), self.CROSSED, self.NONE, (count(1, 2, 0, 1),)):
            for b in (0, -1, 2, 10 ** 11):
                for asked in ASKED:
                    with self.assertRaises(NoBell):
                        asked(PLAN, rows, b)

    def test_crossed(self):
        for asked in ASKED:
            with self.assertRaises(Crossed) as caught:
                asked(PLAN, self.CROSSED, 1)
            self.assertEqual(caught.exception.why, ("unlike",) + self.CROSSED[1:])

    def test_no_world(self):
        for asked in ASKED:
            with self.assertRaises(NoWorld) as caught:
                asked(PLAN, self.NONE, 1)
            self.assertTrue(shows_none(case_of(PLAN, self.NONE, 1), caught.exception.paper))
            self.assertTrue(is_told(caught.exception.paper))

    def test_no_world_where_nobody_is_called(self):
        rows = ((0, "bell", 1, 2), count(1, 1, 1, 1))
        for asked in ASKED:
            with self.assertRaises(NoWorld) as caught:
                asked(PLAN, rows, 1)
            self.assertTrue(shows_none((UPS, (None, 1, None), ()), caught.exception.paper))

    def test_crossed_ahead_of_no_world(self):
        # Of each crossing: the counts fit no world, either.
        for rows, word in (
            (self.CROSSED + (count(1, 1, 2, 9),), "unlike"),
            ((BELL, count(1, 1, 1, 9, 2), count(1, 1, 2, 9, 2)), "twice"),
            ((BELL, count(1, 1, 1, 9, 4)), "stray"),
        ):
            for asked in ASKED:
                with self.assertRaises(Crossed) as caught:
                    asked(PLAN, rows, 1)
                self.assertEqual(caught.exception.why, crossing(PLAN, rows, 1))
                self.assertEqual(caught.exception.why[0], word)

    def test_each_of_many_books(self):
        found = {"crossed": 0, "none": 0}
        for plan, rows in trials():
            for b, watch in bells(rows):
                why = crossing(plan, rows, b)
                if why is not None:
                    for asked in ASKED:
                        with self.assertRaises(Crossed) as caught:
                            asked(plan, rows, b)
                        self.assertEqual(caught.exception.why, why)
                    found["crossed"] += 1
                elif next(all_worlds(case_of(plan, rows, b)), None) is None:
                    for asked in ASKED:
                        with self.assertRaises(NoWorld) as caught:
                            asked(plan, rows, b)
                        self.assertTrue(is_paper(case_of(plan, rows, b), caught.exception.paper))
                    found["none"] += 1
        self.assertGreater(min(found.values()), 20)


class TestAll(unittest.TestCase):
    def test_rows_told_in_another_order_come_to_the_same(self):
        rows = [BELL, count(1, 1, 1, 1, 2), count(2, 1, 2, 1, 4), count(1, 1, 2, 0), (3, "look", 0)]
        wanted = ((1, "lacks"), (2, "there"), (4, "there"), (5, "open"))
        for order in itertools.permutations(rows):
            book = Book(PLAN, (1, ()))
            for row in order + order[:2]:
                book.add(row)
            self.assertEqual(told(PLAN, book.rows(), 1), wanted)

    def test_a_great_plan(self):
        chance = random.Random(32)
        plan = some_plan(chance, 30, 20, 1)
        rows = (BELL, count(1, 1, 0, 12))
        words = told(plan, rows, 1)
        self.assertEqual(tuple(p for p, word in words), called(plan, 0))
        self.assertEqual({word for p, word in words}, {"open"})

    def test_handed_in_stays_and_told_again(self):
        rows = (BELL, count(1, 1, 1, 1, 2), count(2, 1, 2, 1, 4))
        for asked in ASKED:
            with Unchanged(self, PLAN, rows):
                first = asked(PLAN, rows, 1)
            self.assertEqual(asked(PLAN, rows, 1), first)


if __name__ == "__main__":
    unittest.main()
