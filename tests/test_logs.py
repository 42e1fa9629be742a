"""The log, the doors that are open behind it, and the parts of a house."""

import itertools
import random
import unittest

from bellplaces.books import Book
from bellplaces.houses import is_house
from bellplaces.logs import log, open_doors, parts
from tests.things import Unchanged, is_told
from tests.trials import some_house, some_log

PLAN = (3, (None, 0), ((((0, 1),), ((2,),)),))
HOUSE = (6, ((0, 1), (0, 2), (1, 2), (3, 4)))


class TestLog(unittest.TestCase):
    def test_no_rows(self):
        self.assertEqual(log(()), ())

    def test_bells_and_counts_are_left_out(self):
        rows = ((0, "bell", 1, 0), (0, "count", 1, 0, 2, (0,)), (0, "look", 3), (1, "open", 0), (2, "count", 1, 1, 0, ()),
                (2, "seen", 0, 1), (3, "bell", 2, 0), (3, "shut", 0))
        self.assertEqual(log(rows), ((0, "look", 3), (1, "open", 0), (2, "seen", 0, 1), (3, "shut", 0)))
        self.assertEqual(log(rows[:2]), ())
        self.assertEqual(log(log(rows)), log(rows))

    def test_rows_of_one_moment(self):
        rows = ((5, "bell", 1, 0), (5, "count", 1, 0, 0, ()), (5, "look", 1), (5, "look", 4), (5, "open", 0),
                (5, "open", 3), (5, "seen", 0, 4), (5, "seen", 1, 2), (5, "shut", 0), (6, "look", 0))
        self.assertEqual(log(rows), rows[2:])

    def test_rows_told_in_another_order(self):
        rows = ((5, "look", 4), (5, "open", 3), (5, "seen", 0, 4), (5, "shut", 3), (6, "bell", 1, 0))
        for order in itertools.permutations(rows):
            book = Book(PLAN, HOUSE)
            for row in order:
                book.add(row)
            self.assertEqual(log(book.rows()), rows[:4])
            self.assertEqual(open_doors(book.rows()), ())
            # The rows are a rising tuple by promise; but nothing hangs on it.
            self.assertEqual(log(order), rows[:4])
            self.assertEqual(open_doors(order), ())

    def test_kinds_and_handed_in_stays(self):
        rows = ((5, "bell", 1, 0), (5, "look", 1), (5, "open", 0))
        with Unchanged(self, rows):
            self.assertTrue(is_told(log(rows)))
        self.assertEqual(log(rows), log(rows))


class TestOpenDoors(unittest.TestCase):
    def check(self, rows, wanted):
        with Unchanged(self, rows):
            self.assertEqual(open_doors(rows), wanted)
        self.assertTrue(is_told(open_doors(rows)))

    def test_at_first_all_are_shut(self):
        self.check((), ())
        self.check(((0, "bell", 1, 0), (0, "count", 1, 0, 1, (0,)), (1, "look", 0), (1, "seen", 0, 0)), ())

    def test_opened(self):
        self.check(((1, "open", 2),), (2,))
        self.check(((1, "open", 3), (2, "open", 0), (3, "open", 2)), (0, 2, 3))

    def test_opened_twice(self):
        self.check(((1, "open", 2), (2, "open", 2)), (2,))
        self.check(((1, "open", 2), (2, "open", 2), (3, "shut", 2)), ())

    def test_shut_again(self):
        self.check(((1, "open", 2), (2, "shut", 2)), ())
        self.check(((1, "open", 2), (2, "shut", 2), (3, "open", 2)), (2,))
        self.check(((1, "open", 0), (1, "open", 2), (2, "shut", 0)), (2,))

    def test_shut_without_being_open(self):
        self.check(((1, "shut", 2),), ())
        self.check(((1, "shut", 2), (2, "open", 2)), (2,))

    def test_opened_and_shut_at_one_moment(self):
        self.check(((1, "open", 2), (1, "shut", 2)), ())
        self.check(((1, "open", 1), (1, "open", 2), (1, "shut", 2)), (1,))

    def test_other_rows_turn_no_door(self):
        self.check(((1, "open", 2), (2, "look", 2), (2, "seen", 2, 2), (3, "bell", 2, 0), (3, "count", 2, 1, 0, ())), (2,))

    def test_by_the_last_row_of_each_door(self):
        chance = random.Random(41)
        for turn in range(200):
            house = some_house(chance, 6)
            rows = some_log(chance, house, chance.randint(0, 12))
            wanted = []
            for door in range(len(house[1])):
                turns = [row for row in rows if row[1] in ("open", "shut") and row[2] == door]
                if turns and max(turns, key=lambda row: (row[0], row[1] == "shut"))[1] == "open":
                    wanted.append(door)
            self.check(rows, tuple(wanted))


class TestParts(unittest.TestCase):
    def check(self, house, doors, wanted):
        with Unchanged(self, house, doors):
            self.assertEqual(parts(house, doors), wanted)
        self.assertTrue(is_told(parts(house, doors)))

    def test_no_doors(self):
        self.check((1, ()), (), ((0,),))
        self.check((3, ()), (), ((0,), (1,), (2,)))

    def test_doors_that_are_shut_join_nothing(self):
        self.check(HOUSE, (), ((0,), (1,), (2,), (3,), (4,), (5,)))
        self.check(HOUSE, (0,), ((0, 1), (2,), (3,), (4,), (5,)))

    def test_joined_by_several_doors(self):
        self.check(HOUSE, (0, 1), ((0, 1, 2), (3,), (4,), (5,)))
        self.check(HOUSE, (1, 2), ((0, 1, 2), (3,), (4,), (5,)))
        self.check(HOUSE, (0, 1, 2), ((0, 1, 2), (3,), (4,), (5,)))
        self.check(HOUSE, (0, 1, 2, 3), ((0, 1, 2), (3, 4), (5,)))

    def test_a_room_that_no_door_joins(self):
        self.check((4, ((0, 3), (1, 3))), (0, 1), ((0, 1, 3), (2,)))

    def test_rising_by_the_least_rooms(self):
        self.check((5, ((0, 4), (1, 2), (2, 3))), (0, 1, 2), ((0, 4), (1, 2, 3)))
        self.check((6, ((0, 5), (1, 4), (2, 3))), (0, 1, 2), ((0, 5), (1, 4), (2, 3)))

    def test_a_long_way_and_a_great_star(self):
        way = (45, tuple((r, r + 1) for r in range(44)))
        self.check(way, tuple(range(44)), (tuple(range(45)),))
        self.check(way, tuple(range(0, 44, 2)), tuple((r, r + 1) for r in range(0, 44, 2)) + ((44,),))
        star = (45, tuple((r, 44) for r in range(44)))
        self.check(star, tuple(range(44)), (tuple(range(45)),))

    def test_by_going_about(self):
        chance = random.Random(42)
        for turn in range(300):
            house = some_house(chance, chance.choice((1, 4, 8, 45)))
            self.assertTrue(is_house(house))
            doors = tuple(door for door in range(len(house[1])) if chance.random() < 0.5)
            found = set()
            for room in range(house[0]):
                reached = {room}
                for step in range(house[0]):
                    for door in doors:
                        if set(house[1][door]) & reached:
                            reached |= set(house[1][door])
                found.add(tuple(sorted(reached)))
            self.check(house, doors, tuple(sorted(found)))


if __name__ == "__main__":
    unittest.main()
