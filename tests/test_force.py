"""Counts in force: bells, which counts stand, twice, crossings, and the case of a bell."""

import itertools
import random
import unittest

from bellplaces.books import Book
from bellplaces.cases import is_case
from bellplaces.errors import Crossed, NoBell
from bellplaces.force import bells, case_of, crossing, standing, twice
from bellplaces.plans import is_plan
from tests.things import Unchanged, is_told
from tests.trials import some_plan, some_rows, under

# 0 - (1 - (2, 3), 4 - 5). Persons 0 to 3 below place 1, persons 4 and 5 below place 4, person 6 at 0, 7 nowhere.
UPS = (None, 0, 1, 1, 0, 4)
DAY = (((6,),), ((0, 1),), ((0, 2), (3,)), ((1, 2),), ((4,),), ((4, 5),))
# Like DAY but for place 3; like DAY but for place 0; like DAY but for place 5.
THIRD = DAY[:3] + (((2, 1),),) + DAY[4:]
FIRST = ((),) + DAY[1:]
FIFTH = DAY[:5] + (((5, 4),),)
PLAN = (8, UPS, (DAY, THIRD, FIRST, FIFTH))
HOUSE = (1, ())
ASKED = (standing, twice, crossing, case_of)


def count(moment, b, place, many, *names):
    """A row of a count."""
    return (moment, "count", b, place, many, names)


def rung(*watches):
    """Rows of bells 1, 2 and so on, rung at moments 0, 10 and so on for these watches."""
    return tuple((10 * k, "bell", k + 1, watch) for k, watch in enumerate(watches))


def rows_of(*rows):
    """The rising tuple of rows, some of them given as tuples of rows."""
    flat = []
    for row in rows:
        flat += row if row and isinstance(row[0], tuple) else [row]
    return tuple(sorted(flat))


def by_place(**rows):
    """What standing tells, all places but those named (p0, p1 ..) without counts."""
    return tuple(tuple(rows.get(f"p{v}", ())) for v in range(len(UPS)))


def watches_by_words(rows):
    """The watch of each bell that was rung, by the words."""
    return {b: max(row for row in rows if row[1] == "bell" and row[2] == b)[3]
            for b in {row[2] for row in rows if row[1] == "bell"}}


def standing_by_words(plan, rows, b):
    """What standing must tell, another way than the program goes."""
    ups, watches = plan[1], plan[2]
    rung_for = watches_by_words(rows)
    last = []
    for v in range(len(ups)):
        best, found = None, []
        for row in rows:
            if row[1] != "count" or row[3] != v or row[2] not in rung_for or row[2] > b:
                continue
            between = [c for c in rung_for if row[2] <= c <= b]
            if any(watches[rung_for[c]][u] != watches[rung_for[b]][u] for c in between for u in under(ups, v)):
                continue
            key = (row[2], row[0])
            if best is None or key > best:
                best, found = key, []
            if key == best:
                found.append(row)
        last.append((best, found))
    told = []
    for v, (best, found) in enumerate(last):
        gone = any(last[u][0] is not None and last[u][0] > best for u in under(ups, v) - {v}) if found else False
        told.append(() if gone else tuple(sorted(found)))
    return tuple(told)


def twice_by_words(ups, held):
    """What twice must tell of what standing tells."""
    force = [row for rows in held for row in rows]
    return tuple(sorted(
        (p, one, other) for one, other in itertools.product(force, force) for p in set(one[5]) & set(other[5])
        if one[3] < other[3] and other[3] not in under(ups, one[3]) and one[3] not in under(ups, other[3])
    ))


def crossing_by_words(plan, watch, held):
    """What crossing must tell of what standing tells."""
    for rows in held:
        if len(rows) > 1:
            return ("unlike",) + tuple(sorted(rows)[:2])
    named = twice_by_words(plan[1], held)
    if named:
        return ("twice",) + named[0]
    for p in range(plan[0]):
        for v, rows in enumerate(held):
            comes = [u for u in under(plan[1], v) if any(p in post for post in plan[2][watch][u])]
            if rows and p in rows[0][5] and not comes:
                return ("stray", p, rows[0])
    return None


def case_by_words(plan, watch, held):
    """What case_of must tell of what standing tells, where nothing is crossed."""
    people = []
    for p in range(plan[0]):
        places = {v for v, posts in enumerate(plan[2][watch]) if any(p in post for post in posts)}
        if places:
            naming = [v for v, rows in enumerate(held) if rows and p in rows[0][5]]
            for v in naming:
                places &= under(plan[1], v)
            people.append((tuple(sorted(places)), bool(naming)))
    return plan[1], tuple(rows[0][4] if rows else None for rows in held), tuple(people)


def trials():
    """Plans and rows, the same ones each time."""
    chance = random.Random(9)
    for turn in range(500):
        plan = some_plan(chance, chance.randint(1, 6), chance.randint(1, 6), chance.randint(1, 3))
        yield plan, some_rows(chance, plan, chance.randint(0, 14), chance.choice((1, 2, 4)), chance.choice((2, 12)))


class TestBells(unittest.TestCase):
    def test_the_plan_is_one(self):
        self.assertTrue(is_plan(PLAN))

    def test_no_bells(self):
        self.assertEqual(bells(()), ())
        self.assertEqual(bells((count(0, 1, 0, 1), (0, "look", 0), (3, "seen", 1, 0))), ())

    def test_rung_once(self):
        self.assertEqual(bells(((5, "bell", 3, 1),)), ((3, 1),))
        self.assertEqual(bells(rung(0, 2, 1)), ((1, 0), (2, 2), (3, 1)))

    def test_rising_by_bells_not_by_moments(self):
        self.assertEqual(bells(((0, "bell", 10, 0), (1, "bell", 9, 1), (2, "bell", 1, 2))), ((1, 2), (9, 1), (10, 0)))

    def test_rung_again_at_another_moment(self):
        self.assertEqual(bells(((1, "bell", 1, 2), (4, "bell", 1, 2))), ((1, 2),))

    def test_rung_again_for_another_watch(self):
        self.assertEqual(bells(((1, "bell", 1, 2), (4, "bell", 1, 0))), ((1, 0),))
        self.assertEqual(bells(((1, "bell", 1, 0), (4, "bell", 1, 2), (5, "bell", 2, 1))), ((1, 2), (2, 1)))

    def test_rung_for_two_watches_at_one_moment(self):
        self.assertEqual(bells(((4, "bell", 1, 0), (4, "bell", 1, 2))), ((1, 2),))

    def test_great_numbers(self):
        far = 10 ** 12 - 1
        self.assertEqual(bells(((far, "bell", far, 0),)), ((far, 0),))

    def test_counts_and_other_rows_ring_nothing(self):
        rows = rows_of(rung(1), count(3, 2, 0, 1), (4, "look", 0), (5, "seen", 2, 0))
        self.assertEqual(bells(rows), ((1, 1),))

    def test_by_the_words(self):
        for plan, rows in trials():
            self.assertEqual(bells(rows), tuple(sorted(watches_by_words(rows).items())))
            self.assertTrue(is_told(bells(rows)))


class TestNoBell(unittest.TestCase):
    def test_bells_that_were_not_rung(self):
        rows = rows_of((0, "bell", 2, 0), (5, "bell", 4, 0), count(1, 2, 0, 3), count(1, 3, 1, 1), count(1, 9, 1, 1))
        for b in (0, -1, -2, 1, 3, 5, 9, 10 ** 11):
            for asked in ASKED:
                with self.assertRaises(NoBell):
                    asked(PLAN, rows, b)
        for b in (2, 4):
            for asked in ASKED:
                asked(PLAN, rows, b)

    def test_no_rows(self):
        for asked in ASKED:
            with self.assertRaises(NoBell):
                asked(PLAN, (), 1)

    def test_ahead_of_crossed(self):
        rows = rows_of(rung(0), count(1, 1, 0, 3), count(1, 1, 0, 4))
        with self.assertRaises(Crossed):
            case_of(PLAN, rows, 1)
        with self.assertRaises(NoBell):
            case_of(PLAN, rows, 2)


class TestStanding(unittest.TestCase):
    def check(self, rows, b, wanted):
        self.assertEqual(standing(PLAN, rows, b), wanted)

    def test_without_counts(self):
        self.check(rung(0), 1, by_place())

    def test_one_bell(self):
        top, low = count(7, 1, 0, 5), count(7, 1, 2, 2, 0)
        self.check(rows_of(rung(0), top, low), 1, by_place(p0=[top], p2=[low]))

    def test_a_later_count_of_the_same_place(self):
        late = count(9, 1, 2, 1)
        self.check(rows_of(rung(0), count(7, 1, 2, 2, 0), late), 1, by_place(p2=[late]))

    def test_a_count_ahead_of_its_bell_stands(self):
        early = count(0, 1, 2, 1)
        self.check(rows_of((5, "bell", 1, 0), early), 1, by_place(p2=[early]))

    def test_unlike_at_one_moment(self):
        one, two, three = count(7, 1, 2, 1), count(7, 1, 2, 2), count(7, 1, 2, 2, 0)
        self.check(rows_of(rung(0), three, one, two), 1, by_place(p2=[one, two, three]))

    def test_gone_by_near_and_far(self):
        top, mid, low = count(5, 1, 0, 5), count(5, 1, 1, 3), count(6, 1, 2, 2)
        self.check(rows_of(rung(0), top, low), 1, by_place(p2=[low]))
        self.check(rows_of(rung(0), mid, low), 1, by_place(p2=[low]))
        self.check(rows_of(rung(0), top, mid, low), 1, by_place(p2=[low]))

    def test_gone_by_one_that_is_gone_by_itself(self):
        top, mid, low = count(5, 1, 0, 5), count(6, 1, 1, 3), count(7, 1, 2, 2)
        self.check(rows_of(rung(0), top, mid, low), 1, by_place(p2=[low]))
        # The lower one is earlier than the top, the one between is later and gone by a third one.
        low, other = count(4, 1, 2, 2), count(8, 1, 3, 1)
        self.check(rows_of(rung(0), top, mid, low, other), 1, by_place(p2=[low], p3=[other]))

    def test_not_gone_by_at_the_same_moment_or_by_places_above_or_beside(self):
        top, mid, low = count(7, 1, 0, 5), count(7, 1, 1, 3), count(7, 1, 2, 2)
        self.check(rows_of(rung(0), top, mid, low), 1, by_place(p0=[top], p1=[mid], p2=[low]))
        top = count(9, 1, 0, 5)
        self.check(rows_of(rung(0), top, mid, low), 1, by_place(p0=[top], p1=[mid], p2=[low]))
        beside = count(99, 1, 4, 1)
        self.check(rows_of(rung(0), mid, low, beside), 1, by_place(p1=[mid], p2=[low], p4=[beside]))

    def test_by_the_bell_ahead_of_the_moment(self):
        # A late count of the first bell doesn't put the second bell's count aside, nor does it make it gone by.
        second, late = count(15, 2, 1, 3), count(99, 1, 1, 2)
        self.check(rows_of(rung(0, 0), second, late), 2, by_place(p1=[second]))
        below = count(99, 1, 2, 2)
        self.check(rows_of(rung(0, 0), second, below), 2, by_place(p1=[second], p2=[below]))
        # A second bell's count of an earlier moment goes ahead.
        early = count(1, 2, 2, 1)
        self.check(rows_of(rung(0, 0), count(50, 1, 1, 4), early), 2, by_place(p2=[early]))

    def test_taken_up_from_the_bell_ahead(self):
        first = count(5, 1, 2, 2)
        self.check(rows_of(rung(0, 0), first), 2, by_place(p2=[first]))
        self.check(rows_of(rung(0, 0, 0, 0), first), 4, by_place(p2=[first]))

    def test_a_later_bell_s_count_does_not_stand_for_an_earlier_one(self):
        first, second = count(5, 1, 2, 2), count(15, 2, 2, 1)
        self.check(rows_of(rung(0, 0), first, second), 1, by_place(p2=[first]))
        self.check(rows_of(rung(0, 0), first, second), 2, by_place(p2=[second]))

    def test_watches_alike_but_for_one_place(self):
        counts = [count(5, 1, v, 1) for v in range(6)]
        # Place 3 has other posts: what is above it isn't taken up, all else is.
        self.check(rows_of(rung(0, 1), counts), 2, by_place(p2=[counts[2]], p4=[counts[4]], p5=[counts[5]]))
        # Place 0 has other posts: nothing else is above it.
        self.check(rows_of(rung(0, 2), counts), 2, ((),) + tuple((row,) for row in counts[1:]))
        self.check(rows_of(rung(0, 3), counts), 2, by_place(p1=[counts[1]], p2=[counts[2]], p3=[counts[3]]))
        self.check(rows_of(rung(0, 0), counts), 2, tuple((row,) for row in counts))

    def test_a_bell_between_has_another_watch(self):
        counts = [count(5, 1, v, 1) for v in range(6)]
        self.check(rows_of(rung(0, 1, 0), counts), 3, by_place(p2=[counts[2]], p4=[counts[4]], p5=[counts[5]]))
        self.check(rows_of(rung(0, 1, 3), counts), 3, by_place(p2=[counts[2]]))
        # The bell between is what hinders: without it all stands; nor does one ahead or behind hinder.
        self.check(rows_of((0, "bell", 1, 0), (20, "bell", 3, 0), counts), 3, tuple((row,) for row in counts))
        second = [count(15, 2, v, 1) for v in range(6)]
        self.check(rows_of(rung(1, 0, 0), second), 3, tuple((row,) for row in second))
        self.check(rows_of(rung(0, 0, 1), counts), 2, tuple((row,) for row in counts))

    def test_watches_of_other_numbers_with_the_same_posts(self):
        plan = (8, UPS, (DAY, THIRD, DAY))
        first = count(5, 1, 1, 2)
        self.assertEqual(standing(plan, rows_of(rung(0, 2), first), 2), by_place(p1=[first]))
        self.assertEqual(standing(plan, rows_of(rung(0, 1), first), 2), by_place())

    def test_the_last_row_of_a_bell_tells_its_watch(self):
        first = count(5, 1, 3, 2)
        again = rows_of(rung(0, 1), (30, "bell", 1, 1), first)
        self.check(again, 2, by_place(p3=[first]))
        self.check(rows_of(rung(0, 1), first), 2, by_place())

    def test_counts_of_bells_that_were_not_rung(self):
        first, stray = count(5, 1, 2, 2), count(6, 2, 2, 1)
        rows = rows_of((0, "bell", 1, 0), (20, "bell", 3, 0), first, stray)
        self.check(rows, 3, by_place(p2=[first]))

    def test_an_elder_count_that_does_not_stand_puts_nothing_aside(self):
        # Bell 1's count of place 3 doesn't stand for bell 2, so it makes no count above it gone by.
        rows = rows_of(rung(1, 0), count(50, 1, 3, 1), count(15, 2, 1, 2))
        self.check(rows, 2, by_place(p1=[count(15, 2, 1, 2)]))

    def test_stands_until_a_later_one_of_it_or_of_a_place_under_it(self):
        first = count(5, 1, 1, 2)
        self.check(rows_of(rung(0, 2), first), 2, by_place(p1=[first]))
        for v, stays in ((0, True), (1, False), (2, False), (3, False), (4, True), (5, True)):
            later = count(15, 2, v, 1)
            wanted = by_place(p1=[first], **{f"p{v}": [later]}) if stays else by_place(**{f"p{v}": [later]})
            self.check(rows_of(rung(0, 2), first, later), 2, wanted)

    def test_by_the_words(self):
        for plan, rows in trials():
            for b, watch in bells(rows):
                told = standing(plan, rows, b)
                self.assertEqual(told, standing_by_words(plan, rows, b), (plan, rows, b))
                self.assertTrue(is_told(told))
                self.assertEqual(standing(plan, rows, b), told)


class TestTwice(unittest.TestCase):
    def test_nobody(self):
        self.assertEqual(twice(PLAN, rung(0), 1), ())
        rows = rows_of(rung(0), count(5, 1, 2, 2, 0, 2), count(5, 1, 3, 1, 1))
        self.assertEqual(twice(PLAN, rows, 1), ())

    def test_named_apart(self):
        one, other = count(5, 1, 2, 2, 0, 2), count(4, 1, 3, 1, 2)
        self.assertEqual(twice(PLAN, rows_of(rung(0), one, other), 1), ((2, one, other),))

    def test_the_lesser_place_first_whatever_the_moments(self):
        one, other = count(9, 1, 2, 2, 2), count(4, 1, 5, 1, 2)
        self.assertEqual(twice(PLAN, rows_of(rung(0), one, other), 1), ((2, one, other),))

    def test_above_one_another_is_not_apart(self):
        rows = rows_of(rung(0), count(5, 1, 0, 2, 0), count(5, 1, 1, 2, 0), count(5, 1, 2, 2, 0))
        self.assertEqual(twice(PLAN, rows, 1), ())

    def test_not_by_counts_that_are_not_in_force(self):
        rows = rows_of(rung(0), count(5, 1, 2, 2, 2), count(5, 1, 3, 1, 2), count(6, 1, 3, 1))
        self.assertEqual(twice(PLAN, rows, 1), ())
        rows = rows_of(rung(0), count(5, 1, 4, 2, 2), count(5, 1, 3, 1, 2), count(6, 1, 5, 0))
        self.assertEqual(twice(PLAN, rows, 1), ())

    def test_not_two_counts_of_one_place(self):
        rows = rows_of(rung(0), count(5, 1, 2, 2, 2), count(5, 1, 2, 1, 2))
        self.assertEqual(twice(PLAN, rows, 1), ())

    def test_rising_by_people(self):
        one, other, third = count(5, 1, 2, 2, 0, 2), count(5, 1, 3, 2, 0, 2), count(5, 1, 5, 2, 2)
        rows = rows_of(rung(0), one, other, third)
        self.assertEqual(twice(PLAN, rows, 1),
                         ((0, one, other), (2, one, other), (2, one, third), (2, other, third)))

    def test_across_two_bells(self):
        first, second = count(5, 1, 2, 1, 2), count(15, 2, 3, 1, 2)
        self.assertEqual(twice(PLAN, rows_of(rung(0, 0), first, second), 2), ((2, first, second),))
        self.assertEqual(twice(PLAN, rows_of(rung(0, 0), first, second), 1), ())

    def test_several_counts_of_a_place(self):
        one, again, other = count(5, 1, 2, 1, 2), count(5, 1, 2, 2, 2), count(5, 1, 3, 1, 2)
        self.assertEqual(twice(PLAN, rows_of(rung(0), one, again, other), 1), ((2, one, other), (2, again, other)))

    def test_by_the_words(self):
        some = 0
        for plan, rows in trials():
            for b, watch in bells(rows):
                told = twice(plan, rows, b)
                self.assertEqual(told, twice_by_words(plan[1], standing_by_words(plan, rows, b)), (plan, rows, b))
                self.assertTrue(is_told(told))
                some += told != ()
        self.assertGreater(some, 20)


class TestCrossing(unittest.TestCase):
    def check(self, rows, wanted):
        self.assertEqual(crossing(PLAN, rows, 1), wanted)
        if wanted is not None:
            with self.assertRaises(Crossed) as caught:
                case_of(PLAN, rows, 1)
            self.assertEqual(caught.exception.why, wanted)
            self.assertTrue(is_told(caught.exception.why))

    def test_none(self):
        self.check(rung(0), None)
        self.check(rows_of(rung(0), count(5, 1, 0, 9, 0, 6), count(5, 1, 2, 1, 0), count(5, 1, 5, 1, 5)), None)

    def test_unlike(self):
        one, two, three = count(5, 1, 2, 1), count(5, 1, 2, 2), count(5, 1, 2, 3)
        self.check(rows_of(rung(0), one, two), ("unlike", one, two))
        self.check(rows_of(rung(0), three, two), ("unlike", two, three))
        self.check(rows_of(rung(0), one, two, three), ("unlike", one, two))

    def test_unlike_in_names_alone(self):
        one, two = count(5, 1, 2, 1), count(5, 1, 2, 1, 0)
        self.check(rows_of(rung(0), one, two), ("unlike", one, two))

    def test_unlike_of_the_least_place(self):
        low = [count(4, 1, 5, 1), count(4, 1, 5, 2)]
        high = [count(7, 1, 3, 1), count(7, 1, 3, 2)]
        self.check(rows_of(rung(0), low, high), ("unlike", high[0], high[1]))

    def test_unlike_ones_that_are_not_in_force(self):
        self.check(rows_of(rung(0), count(5, 1, 2, 1), count(5, 1, 2, 2), count(6, 1, 2, 1)), None)
        self.check(rows_of(rung(0), count(5, 1, 1, 1), count(5, 1, 1, 2), count(6, 1, 2, 1)), None)

    def test_twice(self):
        one, other = count(5, 1, 2, 2, 0, 2), count(5, 1, 3, 2, 1, 2)
        self.check(rows_of(rung(0), one, other), ("twice", 2, one, other))

    def test_the_first_that_twice_tells(self):
        one, other = count(5, 1, 2, 2, 0, 2), count(5, 1, 3, 2, 0, 2)
        self.check(rows_of(rung(0), one, other), ("twice", 0, one, other))

    def test_stray(self):
        wrong = count(5, 1, 3, 2, 0, 1)
        self.check(rows_of(rung(0), wrong), ("stray", 0, wrong))
        self.check(rows_of(rung(0), count(5, 1, 1, 2, 0, 1)), None)

    def test_stray_of_one_who_is_not_called(self):
        wrong = count(5, 1, 0, 2, 7)
        self.check(rows_of(rung(0), wrong), ("stray", 7, wrong))

    def test_stray_of_one_who_may_come_only_above(self):
        wrong = count(5, 1, 1, 2, 6)
        self.check(rows_of(rung(0), wrong), ("stray", 6, wrong))

    def test_the_least_stray_person(self):
        high, low = count(5, 1, 2, 2, 5), count(5, 1, 5, 2, 0)
        self.check(rows_of(rung(0), high, low), ("stray", 0, low))

    def test_a_stray_person_s_least_place(self):
        # The row of the lesser place is the greater row.
        mid, low = count(6, 1, 1, 2, 5), count(5, 1, 2, 2, 5)
        self.check(rows_of(rung(0), mid, low), ("stray", 5, mid))
        # Named above where they may come, too.
        top = count(6, 1, 0, 2, 5)
        self.check(rows_of(rung(0), top, mid, low), ("stray", 5, mid))

    def test_stray_by_the_bell_s_own_watch(self):
        # Watch 2 calls nobody to place 0; bell 1's count of place 4 is taken up by bell 2.
        top = count(15, 2, 0, 1, 6)
        rows = rows_of(rung(0, 2), top)
        self.assertEqual(crossing(PLAN, rows, 2), ("stray", 6, top))
        self.assertIsNone(crossing(PLAN, rows, 1))

    def test_which_one_comes_first(self):
        unlike = [count(5, 1, 5, 1), count(5, 1, 5, 2)]
        named = [count(5, 1, 2, 2, 2), count(5, 1, 3, 2, 2)]
        wrong = count(5, 1, 4, 1, 0)
        self.check(rows_of(rung(0), unlike, named, wrong), ("unlike", unlike[0], unlike[1]))
        self.check(rows_of(rung(0), unlike[0], named, wrong), ("twice", 2, named[0], named[1]))
        self.check(rows_of(rung(0), unlike, wrong), ("unlike", unlike[0], unlike[1]))
        self.check(rows_of(rung(0), unlike[0], named[0], wrong), ("stray", 0, wrong))
        self.check(rows_of(rung(0), unlike[0], named[0]), None)

    def test_by_the_words(self):
        found = {}
        for plan, rows in trials():
            for b, watch in bells(rows):
                told = crossing(plan, rows, b)
                self.assertEqual(told, crossing_by_words(plan, watch, standing_by_words(plan, rows, b)))
                self.assertTrue(is_told(told))
                word = told[0] if told else None
                found[word] = found.get(word, 0) + 1
        for word in ("unlike", "twice", "stray", None):
            self.assertGreater(found[word], 20, word)


class TestCaseOf(unittest.TestCase):
    def people_of(self, *rows):
        return case_of(PLAN, rows_of(rung(0), *rows), 1)[2]

    def test_without_counts(self):
        wanted = (((1, 2), False), ((1, 3), False), ((2, 3), False), ((2,), False), ((4, 5), False), ((5,), False),
                  ((0,), False))
        self.assertEqual(case_of(PLAN, rung(0), 1), (UPS, (None,) * 6, wanted))

    def test_counts_in_force_stand_at_their_places(self):
        rows = rows_of(rung(0), count(5, 1, 0, 9), count(5, 1, 2, 0), count(3, 1, 4, 1), count(4, 1, 5, 7))
        self.assertEqual(case_of(PLAN, rows, 1)[1], (9, None, 0, None, None, 7))

    def test_who_is_not_called_is_no_person_of_the_case(self):
        # In watch 2 person 6 isn't called either, so the numbers in the case and of the plan part.
        plan = (4, (None, 0), ((((3,),), ((1,),)), ((), ((3,),))))
        self.assertEqual(case_of(plan, rung(0), 1)[2], (((1,), False), ((0,), False)))
        self.assertEqual(case_of(plan, rung(1), 1)[2], (((1,), False),))
        self.assertEqual(case_of((2, (None,), (((),),)), rung(0), 1), ((None,), (None,), ()))

    def test_named_by_one_count(self):
        self.assertEqual(self.people_of(count(5, 1, 2, 2, 0))[0], ((2,), True))
        self.assertEqual(self.people_of(count(5, 1, 1, 2, 0))[0], ((1, 2), True))
        self.assertEqual(self.people_of(count(5, 1, 0, 2, 0))[0], ((1, 2), True))

    def test_only_those_named_must(self):
        self.assertEqual([must for may, must in self.people_of(count(5, 1, 2, 2, 0, 3))],
                         [True, False, False, True, False, False, False])

    def test_named_by_counts_above_one_another(self):
        people = self.people_of(count(5, 1, 0, 9, 0, 2), count(5, 1, 1, 3, 0, 2), count(5, 1, 2, 1, 0))
        self.assertEqual(people[0], ((2,), True))
        self.assertEqual(people[2], ((2, 3), True))
        people = self.people_of(count(5, 1, 0, 9), count(5, 1, 1, 3, 2), count(5, 1, 3, 1, 2))
        self.assertEqual(people[2], ((3,), True))

    def test_names_of_counts_that_are_not_in_force(self):
        people = self.people_of(count(5, 1, 2, 2, 0), count(6, 1, 2, 2))
        self.assertEqual(people[0], ((1, 2), False))

    def test_by_the_bell_s_own_watch(self):
        rows = rows_of(rung(0, 1), count(5, 1, 2, 1, 0), count(5, 1, 3, 1, 1))
        case = case_of(PLAN, rows, 2)
        self.assertEqual(case[1], (None, None, 1, None, None, None))
        self.assertEqual(case[2][0], ((2,), True))
        self.assertEqual(case[2][1], ((1, 3), False))

    def test_by_the_words(self):
        some = 0
        for plan, rows in trials():
            for b, watch in bells(rows):
                held = standing_by_words(plan, rows, b)
                why = crossing_by_words(plan, watch, held)
                if why is None:
                    told = case_of(plan, rows, b)
                    self.assertEqual(told, case_by_words(plan, watch, held), (plan, rows, b))
                    self.assertTrue(is_told(told) and is_case(told))
                    self.assertTrue(all(may for may, must in told[2]))
                    some += 1
                else:
                    with self.assertRaises(Crossed) as caught:
                        case_of(plan, rows, b)
                    self.assertEqual(caught.exception.why, why)
        self.assertGreater(some, 20)


class TestAll(unittest.TestCase):
    def told(self, plan, rows, b):
        """All that is told of a bell, or what it is refused with."""
        answers = [bells(rows)]
        for asked in ASKED:
            try:
                answers.append(asked(plan, rows, b))
            except Crossed as error:
                answers.append(error.why)
        return answers

    def test_rows_told_in_another_order_come_to_the_same(self):
        chance = random.Random(5)
        for plan, rows in itertools.islice(trials(), 0, 200):
            order = list(rows) + chance.sample(rows, len(rows) // 2)
            chance.shuffle(order)
            book = Book(plan, HOUSE)
            for row in order:
                book.add(row)
            for b, watch in bells(rows):
                self.assertEqual(self.told(plan, book.rows(), b), self.told(plan, rows, b))
                # The rows are a rising tuple by promise; but nothing hangs on it.
                self.assertEqual(self.told(plan, rows[::-1], b), self.told(plan, rows, b))

    def test_rows_that_are_no_counts_change_nothing(self):
        for plan, rows in itertools.islice(trials(), 0, 50):
            others = tuple((moment, word, 0) for moment in (0, 5) for word in ("look", "open", "shut"))
            others += ((3, "seen", 0, 0),)
            for b, watch in bells(rows):
                self.assertEqual(self.told(plan, tuple(sorted(rows + others)), b), self.told(plan, rows, b))

    def test_handed_in_stays_and_told_again(self):
        for plan, rows in itertools.islice(trials(), 0, 50):
            for b, watch in bells(rows):
                with Unchanged(self, plan, rows):
                    first = self.told(plan, rows, b)
                self.assertEqual(self.told(plan, rows, b), first)

    def test_two_hundred_rows_of_a_great_plan(self):
        chance = random.Random(3)
        plan = some_plan(chance, 30, 20, 6)
        self.assertTrue(is_plan(plan))
        rows = some_rows(chance, plan, 200, bells=40, moments=10 ** 11, names=3)
        for b, watch in bells(rows)[-3:]:
            held = standing_by_words(plan, rows, b)
            self.assertEqual(standing(plan, rows, b), held)
            self.assertEqual(crossing(plan, rows, b), crossing_by_words(plan, watch, held))


if __name__ == "__main__":
    unittest.main()
