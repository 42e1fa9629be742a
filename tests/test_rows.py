"""Rows: all six forms."""

import unittest

from bellplaces.houses import is_house
from bellplaces.plans import is_plan
from bellplaces.rows import is_row
from tests.things import Unchanged, all_things, swapped, things_but

# No two of these numbers are alike, so that no limit can stand for another one:
# 7 people, 4 places, 3 watches, 6 rooms, 5 doors.
PLAN = (7, (None, 0, 1, 1), (((),) * 4, (((0, 1),),) * 4, ((),) * 4))
HOUSE = (6, ((0, 1), (1, 2), (2, 3), (3, 4), (4, 5)))
LONG = 10 ** 12 - 1

ROWS = [
    (5, "bell", 2, 1),
    (5, "count", 2, 1, 3, (0, 2)),
    (5, "look", 3),
    (5, "open", 2),
    (5, "shut", 2),
    (5, "seen", 4, 2),
]
# For each form the parts that are numbers: where they stand, the least, the greatest (None: there is none).
NUMBERS = {
    "bell": [(0, 0, None), (2, 1, None), (3, 0, 2)],
    "count": [(0, 0, None), (2, 1, None), (3, 0, 3), (4, 2, None)],
    "look": [(0, 0, None), (2, 0, 5)],
    "open": [(0, 0, None), (2, 0, 4)],
    "shut": [(0, 0, None), (2, 0, 4)],
    "seen": [(0, 0, None), (2, 0, 6), (3, 0, 5)],
}


class TestIsRow(unittest.TestCase):
    def check(self, thing, wanted):
        self.assertIs(is_row(PLAN, HOUSE, thing), wanted, repr(thing))

    def test_the_plan_and_the_house_are_such(self):
        self.assertTrue(is_plan(PLAN) and is_house(HOUSE))

    def test_all_six_forms(self):
        for row in ROWS:
            self.check(row, True)

    def test_the_edges_of_each_number(self):
        for row in ROWS:
            for at, least, greatest in NUMBERS[row[1]]:
                self.check(swapped(row, at, least), True)
                self.check(swapped(row, at, least - 1), False)
                self.check(swapped(row, at, -1), False)
                self.check(swapped(row, at, -LONG), False)
                if greatest is None:
                    self.check(swapped(row, at, LONG), True)
                else:
                    self.check(swapped(row, at, greatest), True)
                    self.check(swapped(row, at, greatest + 1), False)
                    self.check(swapped(row, at, LONG), False)

    def test_each_number_of_another_kind(self):
        for row in ROWS:
            for at, least, greatest in NUMBERS[row[1]]:
                for thing in all_things():
                    wanted = type(thing) is int and thing >= least and (greatest is None or thing <= greatest)
                    self.check(swapped(row, at, thing), wanted)

    def test_a_truth_for_a_number(self):
        for row in ROWS:
            for at, least, greatest in NUMBERS[row[1]]:
                self.check(swapped(row, at, True), False)
                self.check(swapped(row, at, False), False)
        self.check((5, "count", 1, 1, 2, (0, True)), False)
        self.check((5, "count", 1, 1, 2, (False, 1)), False)

    def test_another_word(self):
        for row in ROWS:
            for word in ("", "Bell", "BELL", "bell ", " look", "opens", "shu", "see", "close", "rows", "told", b"bell"):
                self.check(swapped(row, 1, word), False)
            for thing in things_but("bell", "count"):
                self.check(swapped(row, 1, thing), False)

    def test_the_word_of_another_form(self):
        alike = [("look", "open"), ("look", "shut"), ("open", "shut"), ("bell", "seen")]
        for row in ROWS:
            for other in ROWS:
                wanted = len(row) == len(other)
                self.check(swapped(row, 1, other[1]), wanted)
                if wanted and row[1] != other[1]:
                    self.assertIn(tuple(sorted((row[1], other[1]))), alike)

    def test_a_part_more_or_fewer(self):
        for row in ROWS:
            for many in range(len(row)):
                self.check(row[:many], False)
            for part in (0, 1, (), None, "bell"):
                self.check(row + (part,), False)
            for at in range(len(row)):
                self.check(row[:at] + row[at + 1:], False)

    def test_a_list_for_a_tuple(self):
        for row in ROWS:
            self.check(list(row), False)
            self.check((row,), False)
        self.check((5, "count", 2, 1, 3, [0, 2]), False)

    def test_things_of_every_kind(self):
        for thing in all_things():
            self.check(thing, False)

    def test_names(self):
        for names in ((), (0,), (6,), (0, 6), (1, 2, 3), (4, 5, 6)):
            self.check((0, "count", 1, 0, 3, names), True)
        for names in ((7,), (-1,), (0, 7), (-1, 0), (1, 0), (2, 1, 3), (0, 0), (1, 1, 2), (0, LONG), (None,), ("0",)):
            self.check((0, "count", 1, 0, 3, names), False)

    def test_names_of_another_kind(self):
        for thing in things_but((), (0,), (1,), (0, 1)):
            self.check((0, "count", 1, 0, 3, thing), False)
        for thing in things_but(1, 2, 5):
            self.check((0, "count", 1, 0, 3, (0, thing)), False)
        for thing in things_but(0, 1, 2, 5):
            self.check((0, "count", 1, 0, 3, (thing,)), False)

    def test_more_names_than_were_counted(self):
        names = (0, 1, 2, 3, 4, 5, 6)
        for many in range(8):
            for named in range(8):
                self.check((0, "count", 1, 0, many, names[:named]), named <= many)
        self.check((0, "count", 1, 0, LONG, names), True)

    def test_a_count_of_more_than_there_are_people(self):
        self.check((0, "count", 1, 0, 8, ()), True)

    def test_a_count_of_a_bell_that_nobody_rang(self):
        self.check((0, "count", LONG, 3, 0, ()), True)
        self.check((0, "count", 0, 3, 0, ()), False)

    def test_rows_of_another_plan_and_house(self):
        small = (1, (None,), (((),),))
        hut = (1, ())
        for row in ((0, "bell", 1, 0), (0, "count", 1, 0, 1, (0,)), (0, "look", 0), (0, "seen", 0, 0)):
            self.assertIs(is_row(small, hut, row), True)
        for row in ((0, "bell", 1, 1), (0, "count", 1, 1, 1, ()), (0, "count", 1, 0, 1, (1,)), (0, "look", 1),
                    (0, "open", 0), (0, "shut", 0), (0, "seen", 1, 0), (0, "seen", 0, 1)):
            self.assertIs(is_row(small, hut, row), False)

    def test_handed_in_stays_and_told_again(self):
        things = ROWS + [[5, "look", 3], (5, "count", 2, 1, 3, [0, 2]), (5, ["bell"], {1: [2]}, 1)]
        for thing in things:
            with Unchanged(self, PLAN, HOUSE, thing):
                first = is_row(PLAN, HOUSE, thing)
            self.assertIs(is_row(PLAN, HOUSE, thing), first)


if __name__ == "__main__":
    unittest.main()
