"""Books: rows in whatever order, late or twice, come to the same."""

import itertools
import unittest

from bellplaces.books import Book
from bellplaces.errors import NoHouse, NoPlan, NoRow
from tests.things import Unchanged, all_things, is_told, things_but

PLAN = (3, (None, 0, 1), ((((0, 1),), ((2,),), ()), ((), (), ((1,),))))
HOUSE = (3, ((0, 1), (1, 2)))
RISING = (
    (0, "bell", 1, 0),
    (0, "look", 2),
    (1, "count", 1, 1, 1, ()),
    (1, "count", 1, 1, 2, (0, 2)),
    (1, "count", 1, 1, 2, (1,)),
    (1, "open", 0),
    (1, "seen", 0, 2),
    (1, "shut", 0),
    (2, "bell", 2, 1),
    (10, "look", 0),
)


def book_of(rows):
    """A book to which these rows were added, in their order."""
    book = Book(PLAN, HOUSE)
    for row in rows:
        book.add(row)
    return book


class TestMaking(unittest.TestCase):
    def test_a_new_book_is_empty(self):
        self.assertEqual(Book(PLAN, HOUSE).rows(), ())

    def test_no_plan(self):
        for thing in all_things():
            with self.assertRaises(NoPlan):
                Book(thing, HOUSE)
        with self.assertRaises(NoPlan):
            Book(list(PLAN), HOUSE)
        with self.assertRaises(NoPlan):
            Book((31,) + PLAN[1:], HOUSE)

    def test_no_house(self):
        for thing in things_but((1, ()), (2, ())):
            with self.assertRaises(NoHouse):
                Book(PLAN, thing)
        with self.assertRaises(NoHouse):
            Book(PLAN, (46, ()))

    def test_neither(self):
        for thing in all_things():
            with self.assertRaises(NoPlan):
                Book(thing, thing)
        with self.assertRaises(NoPlan):
            Book(HOUSE, PLAN)

    def test_handed_in_stays(self):
        for plan, house in ((PLAN, HOUSE), (list(PLAN), HOUSE), (PLAN, list(HOUSE))):
            with Unchanged(self, plan, house):
                try:
                    Book(plan, house)
                except (NoPlan, NoHouse):
                    pass

    def test_each_method_stands_in_the_class(self):
        for name in ("add", "rows", "join"):
            self.assertIn(name, vars(Book))


class TestAdd(unittest.TestCase):
    def test_new_rows_and_known_ones(self):
        book = Book(PLAN, HOUSE)
        for row in RISING:
            self.assertIs(book.add(row), True)
        for row in RISING:
            self.assertIs(book.add(row), False)
        self.assertEqual(book.rows(), RISING)

    def test_known_as_soon_as_added(self):
        book = Book(PLAN, HOUSE)
        self.assertIs(book.add(RISING[0]), True)
        self.assertIs(book.add(RISING[0]), False)
        self.assertIs(book.add(tuple(list(RISING[0]))), False)
        self.assertIs(book.add(RISING[1]), True)
        self.assertEqual(book.rows(), RISING[:2])

    def test_rows_that_are_unlike_in_one_part_are_both_new(self):
        book = Book(PLAN, HOUSE)
        for row in ((1, "count", 1, 1, 2, ()), (1, "count", 1, 1, 2, (0,)), (1, "count", 1, 1, 1, (0,)),
                    (1, "count", 1, 0, 1, (0,)), (1, "count", 2, 0, 1, (0,)), (2, "count", 2, 0, 1, (0,)),
                    (1, "open", 0), (1, "shut", 0), (1, "look", 0)):
            self.assertIs(book.add(row), True)
        self.assertEqual(len(book.rows()), 9)

    def test_no_row_and_nothing_is_changed(self):
        book = book_of(RISING)
        wrong = all_things() + [
            list(RISING[0]), (0, "bell", 1, 2), (0, "look", 3), (0, "open", 2), (0, "seen", 3, 0), (0, "bell", True, 0),
            (0, "look", True), (0, "look", False), (False, "look", 2), (1, "count", 1, 1, 2, [0, 2]),
            (1, "count", 1, 1, 2, (0, 1, 2)), (1, "count", 1, 3, 2, ()),
        ]
        for thing in wrong:
            with self.assertRaises(NoRow):
                book.add(thing)
            self.assertEqual(book.rows(), RISING)
        self.assertTrue(is_told(book.rows()))
        self.assertIs(book.add((3, "look", 0)), True)

    def test_a_truth_is_not_taken_for_a_known_number(self):
        book = book_of([(1, "look", 1)])
        with self.assertRaises(NoRow):
            book.add((True, "look", 1))

    def test_handed_in_stays(self):
        book = Book(PLAN, HOUSE)
        for thing in (RISING[3], list(RISING[3]), (1, "count", 1, 1, 2, [0, 2])):
            with Unchanged(self, thing):
                try:
                    book.add(thing)
                except NoRow:
                    pass

    def test_by_the_book_s_own_plan_and_house(self):
        book = Book((1, (None,), (((),),)), (1, ()))
        for row in ((0, "bell", 1, 1), (0, "count", 1, 1, 0, ()), (0, "look", 1), (0, "open", 0), (0, "seen", 1, 0)):
            with self.assertRaises(NoRow):
                book.add(row)
        self.assertIs(book.add((0, "seen", 0, 0)), True)


class TestRows(unittest.TestCase):
    def test_any_order_comes_to_the_same(self):
        for some in itertools.permutations(RISING[2:7]):
            self.assertEqual(book_of(some).rows(), RISING[2:7])
        self.assertEqual(book_of(reversed(RISING)).rows(), RISING)

    def test_late_and_twice(self):
        self.assertEqual(book_of(RISING[5:] + RISING[3:7] + RISING[:5] + RISING).rows(), RISING)

    def test_asked_between_the_rows(self):
        book = Book(PLAN, HOUSE)
        for many, row in enumerate(reversed(RISING)):
            book.add(row)
            self.assertEqual(book.rows(), RISING[len(RISING) - many - 1:])

    def test_numbers_rise_as_numbers(self):
        book = book_of([(10, "look", 0), (9, "look", 0), (10 ** 11, "look", 1), (2, "look", 0)])
        self.assertEqual([row[0] for row in book.rows()], [2, 9, 10, 10 ** 11])

    def test_what_was_told_stays_when_more_comes(self):
        book = book_of(RISING[:3])
        told = book.rows()
        book.add(RISING[5])
        self.assertEqual(told, RISING[:3])

    def test_asked_again_and_of_which_kinds(self):
        book = book_of(RISING)
        self.assertEqual(book.rows(), book.rows())
        self.assertTrue(is_told(book.rows()))

    def test_two_hundred_rows(self):
        rows = [(k // 3, "look", k % 3) for k in range(200)]
        self.assertEqual(book_of(reversed(rows)).rows(), tuple(rows))


class TestJoin(unittest.TestCase):
    def test_join_to_another_one(self):
        for at in range(len(RISING) + 1):
            one, other = book_of(RISING[:at]), book_of(RISING[max(at - 2, 0):])
            self.assertIsNone(one.join(other))
            self.assertEqual(one.rows(), RISING)
            self.assertEqual(other.rows(), RISING[max(at - 2, 0):])

    def test_join_to_itself(self):
        book = book_of(RISING)
        self.assertIsNone(book.join(book))
        self.assertEqual(book.rows(), RISING)

    def test_join_to_and_of_an_empty_one(self):
        empty, full = Book(PLAN, HOUSE), book_of(RISING)
        full.join(empty)
        self.assertEqual((full.rows(), empty.rows()), (RISING, ()))
        empty.join(full)
        self.assertEqual((full.rows(), empty.rows()), (RISING, RISING))

    def test_joined_rows_are_known(self):
        one, other = Book(PLAN, HOUSE), book_of(RISING)
        one.join(other)
        for row in RISING:
            self.assertIs(one.add(row), False)

    def test_behind_a_join_the_books_are_still_two(self):
        one, other = book_of(RISING[:2]), book_of(RISING[2:4])
        one.join(other)
        one.add(RISING[5])
        other.add(RISING[6])
        self.assertEqual(one.rows(), RISING[:4] + RISING[5:6])
        self.assertEqual(other.rows(), RISING[2:4] + RISING[6:7])

    def test_whichever_way_they_are_joined_they_come_to_the_same(self):
        parts = RISING[::3], RISING[1::3], RISING[2::3]
        for order in itertools.permutations(parts):
            book = Book(PLAN, HOUSE)
            for part in order:
                book.join(book_of(part))
            self.assertEqual(book.rows(), RISING)


class TestTwoBooks(unittest.TestCase):
    def test_by_turns_they_do_not_touch_one_another(self):
        one, other = Book(PLAN, HOUSE), Book(PLAN, HOUSE)
        for at, row in enumerate(RISING):
            book = one if at % 2 == 0 else other
            self.assertIs(book.add(row), True)
            self.assertEqual(one.rows(), RISING[0:at + 1:2])
            self.assertEqual(other.rows(), RISING[1:at + 1:2])
        for row in RISING[1::2]:
            self.assertIs(one.add(row), True)
        self.assertEqual(other.rows(), RISING[1::2])

    def test_books_of_unlike_plans(self):
        one, other = Book(PLAN, HOUSE), Book((1, (None,), (((),),)), (1, ()))
        self.assertIs(one.add((0, "look", 2)), True)
        with self.assertRaises(NoRow):
            other.add((0, "look", 2))
        self.assertEqual((one.rows(), other.rows()), (((0, "look", 2),), ()))


if __name__ == "__main__":
    unittest.main()
