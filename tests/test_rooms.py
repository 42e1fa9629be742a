"""Rooms in which a person can be: traces, tried against all that there are, and bounds."""

import itertools
import random
import unittest

from bellplaces.books import Book
from bellplaces.errors import NoRoom
from bellplaces.rooms import bounds, rooms_for, shows_bounds, shows_trace, trace
from tests.things import (Strange, Unchanged, all_things, is_told, is_whole_tuple, nested, otherwise, swapped,
                          things_but)
from tests.trials import some_house, some_log

# Rooms in a way, 0 - 1 - 2 - 3, and room 4 without a door; doors 0, 1, 2.
HOUSE = (5, ((0, 1), (1, 2), (2, 3)))
ALL = (0, 1, 2, 3, 4)


def going(house, doors, room):
    """All rooms to which one goes from this room, by going about through the open doors."""
    reached = {room}
    for step in range(house[0]):
        for door in doors:
            if set(house[1][door]) & reached:
                reached |= set(house[1][door])
    return reached


def since_by_words(house, rows, p):
    """By the words: the rooms of the first one, and for each row of M the room looked at (or None) and the open doors."""
    entries = [row for row in sorted(rows) if row[1] in ("look", "open", "seen", "shut")]
    sights = [row for row in entries if row[1] == "seen" and row[2] == p]
    first, doors, since = set(range(house[0])), set(), []
    for row in entries:
        if row[1] == "open":
            doors.add(row[2])
        elif row[1] == "shut":
            doors.discard(row[2])
        if sights and row == sights[-1]:
            first = going(house, doors, row[3])
        elif not sights or row > sights[-1]:
            since.append((row[2] if row[1] == "look" else None, set(doors)))
    return first, since


def all_traces(house, rows, p):
    """All traces of p, by going on from each in every way."""
    first, since = since_by_words(house, rows, p)
    found = [(room,) for room in first]
    for looked, doors in since:
        ways = [going(house, doors, room) for room in range(house[0])]
        found = [rooms + (room,) for rooms in found if rooms[-1] != looked for room in ways[rooms[-1]]]
    return found


def are_bounds(house, rows, p, thing):
    """By the words, of anything: whether it is bounds of p."""
    first, since = since_by_words(house, rows, p)
    if type(thing) is not tuple or len(thing) != len(since) + 1:
        return False
    for rooms in thing:
        if not is_whole_tuple(rooms) or list(rooms) != sorted(set(rooms)) or set(rooms) - set(range(house[0])):
            return False
    if first - set(thing[0]):
        return False
    for k, (looked, doors) in enumerate(since):
        for room in thing[k]:
            if room != looked and going(house, doors, room) - set(thing[k + 1]):
                return False
    return True


def small_trials(many):
    """Houses and rows of which all traces can be tried, the same ones each time."""
    chance = random.Random(51)
    for turn in range(many):
        house = some_house(chance, chance.choice((1, 2, 3, 4)))
        yield house, some_log(chance, house, chance.randint(0, 7))


def great_trials(many):
    """Greater houses and rows, the same ones each time."""
    chance = random.Random(52)
    for turn in range(many):
        house = some_house(chance, chance.choice((10, 45)))
        yield house, some_log(chance, house, chance.choice((20, 120, 190)), 3, 60)


class TestRoomsFor(unittest.TestCase):
    def check(self, rows, wanted, p=0, house=HOUSE):
        told = rooms_for(house, rows, p)
        self.assertEqual(told, wanted)
        self.assertTrue(is_told(told))
        self.assertEqual(bounds(house, rows, p)[-1], wanted)

    def test_never_seen(self):
        self.check((), ALL)
        self.check(((1, "open", 0), (2, "seen", 1, 3), (3, "shut", 0)), ALL)

    def test_seen(self):
        self.check(((1, "seen", 0, 3),), (3,))
        self.check(((1, "seen", 0, 4),), (4,))

    def test_seen_again(self):
        self.check(((1, "seen", 0, 3), (2, "seen", 0, 1)), (1,))
        self.check(((1, "seen", 0, 3), (1, "seen", 0, 1)), (3,))
        self.check(((1, "seen", 0, 3), (2, "seen", 1, 0)), (3,))

    def test_through_doors_that_are_open_when_seen(self):
        self.check(((1, "open", 0), (1, "open", 1), (2, "seen", 0, 0)), (0, 1, 2))
        self.check(((2, "open", 0), (2, "seen", 0, 0)), (0, 1))
        self.check(((1, "open", 0), (2, "shut", 0), (3, "seen", 0, 0)), (0,))

    def test_shut_at_the_moment_of_the_sight_is_behind_it(self):
        self.check(((1, "open", 0), (2, "seen", 0, 0), (2, "shut", 0)), (0, 1))

    def test_through_doors_that_were_open_once_since(self):
        self.check(((1, "seen", 0, 0), (2, "open", 0), (3, "shut", 0)), (0, 1))
        self.check(((1, "seen", 0, 0), (2, "open", 0), (3, "shut", 0), (4, "open", 1)), (0, 1, 2))
        self.check(((1, "seen", 0, 0), (2, "open", 1), (3, "shut", 1), (4, "open", 0)), (0, 1))

    def test_looks(self):
        self.check(((1, "look", 2),), (0, 1, 3, 4))
        self.check(((1, "look", 2), (2, "look", 0)), (1, 3, 4))
        self.check(tuple((r, "look", r) for r in range(5)), ())

    def test_who_hides_goes_about_behind_a_look(self):
        self.check(((1, "open", 1), (2, "look", 2)), ALL)
        self.check(((1, "open", 1), (2, "look", 1), (2, "look", 2)), ALL)
        self.check(((1, "open", 1), (2, "shut", 1), (3, "look", 2)), (0, 1, 3, 4))

    def test_a_look_ahead_of_the_last_sight(self):
        self.check(((1, "look", 2), (2, "seen", 0, 2)), (2,))
        self.check(((2, "look", 2), (2, "seen", 0, 2)), (2,))
        self.check(((2, "seen", 0, 2), (3, "look", 2)), ())

    def test_looks_at_all_that_can_be(self):
        self.check(((1, "seen", 0, 1), (2, "look", 1), (3, "open", 0)), ())
        self.check(((1, "open", 0), (2, "seen", 0, 1), (3, "look", 1), (4, "look", 0)), (0, 1))
        self.check(((1, "open", 0), (2, "seen", 0, 1), (3, "shut", 0), (4, "look", 1), (4, "look", 0)), ())

    def test_bells_and_counts_change_nothing(self):
        rows = ((0, "bell", 1, 0), (1, "seen", 0, 1), (2, "count", 1, 0, 1, (0,)), (3, "open", 0))
        self.check(rows, (0, 1))
        self.check(rows[:3], (1,))

    def test_small_houses_against_all_traces(self):
        sorts = set()
        for house, rows in small_trials(250):
            for p in (0, 1, 2):
                ends = {rooms[-1] for rooms in all_traces(house, rows, p)}
                self.check(rows, tuple(sorted(ends)), p, house)
                sorts.add(min(len(ends), 2))
        self.assertEqual(sorts, {0, 1, 2})

    def test_rows_told_in_another_order(self):
        plan = (1, (None,), ((((0,),),),))
        rows = ((1, "open", 0), (1, "seen", 0, 1), (2, "shut", 0), (2, "look", 1), (3, "open", 1))
        for order in itertools.permutations(rows):
            book = Book(plan, HOUSE)
            for row in order:
                book.add(row)
            self.assertEqual(rooms_for(HOUSE, book.rows(), 0), (0, 1, 2))


class TestShowsTrace(unittest.TestCase):
    # Seen in room 1, room 0 being open; then a look at 0, door 0 shut, a look at 2.
    ROWS = ((1, "open", 0), (2, "seen", 0, 1), (3, "look", 0), (4, "shut", 0), (5, "look", 2))

    def check(self, rows, thing, wanted, p=0, house=HOUSE):
        self.assertIs(shows_trace(house, rows, p, thing), wanted, repr((house, rows, p, thing)))

    def test_ordinary_traces(self):
        for thing in ((1, 1, 1, 1), (1, 0, 0, 0), (1, 1, 0, 0), (1, 0, 1, 1)):
            self.check(self.ROWS, thing, thing[1] == thing[2])
        self.check(self.ROWS, (0, 1, 1, 1), False)

    def test_the_room_that_stands_for_a_look(self):
        # The room looked at stands for the look's row, not for the one behind it.
        rows = ((1, "open", 0), (2, "look", 0))
        self.check(rows, (0, 1, 0), True)
        self.check(rows, (0, 0, 0), False)
        self.check(rows, (0, 0, 1), False)
        self.check(rows, (0, 1, 1), True)

    def test_never_seen_begins_anywhere(self):
        for room in ALL:
            self.check((), (room,), True)
            self.check(((1, "look", 0),), (room, room), room != 0)

    def test_the_first_one_is_joined_with_the_last_sight(self):
        rows = ((1, "open", 0), (2, "seen", 0, 1))
        self.check(rows, (0,), True)
        self.check(rows, (1,), True)
        self.check(rows, (2,), False)
        self.check(((2, "seen", 0, 1), (3, "open", 0)), (0, 0), False)
        self.check(((2, "seen", 0, 1), (3, "open", 0)), (1, 0), True)

    def test_the_doors_open_behind_the_row_between(self):
        rows = ((1, "seen", 0, 0), (2, "open", 0), (3, "shut", 0))
        self.check(rows, (0, 1, 1), True)
        self.check(rows, (0, 0, 1), False)
        self.check(rows, (0, 0, 0), True)
        self.check(rows, (1, 1, 1), False)

    def test_parts_more_or_fewer(self):
        for thing in ((), (1,), (1, 1), (1, 1, 1), (1, 1, 1, 1, 1), ((1, 1, 1, 1),), [1, 1, 1, 1]):
            self.check(self.ROWS, thing, False)
        self.check((), (), False)
        self.check((), (0, 0), False)

    def test_wrong_rooms(self):
        for room in (-1, 5, 10 ** 11, True, None, "1", (1,), [1], Strange()):
            for at in range(4):
                self.check(self.ROWS, swapped((1, 1, 1, 1), at, room), False)
        self.check((), (False,), False)
        self.check((), (True,), False)
        self.check((), (-1,), False)

    def test_things_of_every_kind(self):
        for thing in all_things():
            self.check(self.ROWS, thing, False)
            for at in range(4):
                self.check(self.ROWS, swapped((1, 1, 1, 1), at, thing), type(thing) is int and thing == 1)
        for thing in things_but((0,), (1,)) + [nested((1,), 39, lambda x: (x,))]:
            self.check((), thing, False)

    def test_all_tuples_of_rooms_of_small_houses(self):
        for house, rows in small_trials(120):
            for p in (0, 1):
                many = len(since_by_words(house, rows, p)[1]) + 1
                found = set(all_traces(house, rows, p))
                if house[0] ** many < 5000:
                    for rooms in itertools.product(range(house[0]), repeat=many):
                        self.check(rows, rooms, rooms in found, p, house)

    def test_handed_in_stays(self):
        for thing in ((1, 1, 1, 1), [1, 1, 1, 1], (1, [1], 1, 1), {"a": [1]}):
            with Unchanged(self, HOUSE, self.ROWS, thing):
                first = shows_trace(HOUSE, self.ROWS, 0, thing)
            self.assertIs(shows_trace(HOUSE, self.ROWS, 0, thing), first)


class TestTrace(unittest.TestCase):
    def check(self, house, rows, p):
        """A trace to each room that is told, none to any other one."""
        told = rooms_for(house, rows, p)
        for room in range(house[0]):
            if room in told:
                found = trace(house, rows, p, room)
                self.assertTrue(is_told(found) and is_whole_tuple(found))
                self.assertEqual(found[-1], room)
                self.assertIs(shows_trace(house, rows, p, found), True, (house, rows, p, found))
                self.assertEqual(trace(house, rows, p, room), found)
                first, since = since_by_words(house, rows, p)
                self.assertIn(found[0], first)
                for k, (looked, doors) in enumerate(since):
                    self.assertNotEqual(found[k], looked)
                    self.assertIn(found[k + 1], going(house, doors, found[k]))
            else:
                with self.assertRaises(NoRoom):
                    trace(house, rows, p, room)

    def test_never_seen_and_nothing_told(self):
        for room in ALL:
            self.assertEqual(trace(HOUSE, (), 0, room), (room,))

    def test_ordinary_traces(self):
        rows = ((1, "seen", 0, 0), (2, "open", 0), (3, "shut", 0), (4, "look", 0))
        self.assertEqual(trace(HOUSE, rows, 0, 1), (0, 1, 1, 1))
        for room in (0, 2, 3, 4):
            with self.assertRaises(NoRoom):
                trace(HOUSE, rows, 0, room)

    def test_a_look_is_shunned(self):
        rows = ((1, "open", 0), (2, "look", 0), (3, "look", 1), (4, "look", 0))
        found = trace(HOUSE, rows, 0, 0)
        self.assertEqual(found[1:4], (1, 0, 1))
        self.check(HOUSE, rows, 0)

    def test_small_houses(self):
        for house, rows in small_trials(250):
            for p in (0, 1, 2):
                self.check(house, rows, p)

    def test_great_houses(self):
        for house, rows in great_trials(6):
            told = rooms_for(house, rows, 0)
            for room in told[:3] + told[-2:]:
                self.assertIs(shows_trace(house, rows, 0, trace(house, rows, 0, room)), True)
            for room in sorted(set(range(house[0])) - set(told))[:3]:
                with self.assertRaises(NoRoom):
                    trace(house, rows, 0, room)

    def test_no_room_of_any_kind(self):
        for thing in things_but(0, 1, 2) + [-1, 5, 45, (0,), [0], "0", Strange()]:
            if not (type(thing) is int and 0 <= thing < 5):
                with self.assertRaises(NoRoom):
                    trace(HOUSE, (), 0, thing)
        for thing in all_things():
            with self.assertRaises(NoRoom):
                trace((1, ()), ((1, "look", 0),), 0, thing)

    def test_a_truth_is_no_room(self):
        for thing in (True, False):
            with self.assertRaises(NoRoom):
                trace(HOUSE, (), 0, thing)

    def test_handed_in_stays(self):
        rows = ((1, "seen", 0, 0), (2, "open", 0), (3, "shut", 0), (4, "look", 0))
        with Unchanged(self, HOUSE, rows):
            trace(HOUSE, rows, 0, 1)
            rooms_for(HOUSE, rows, 0)
        thing = [{"a": [1]}]
        with Unchanged(self, thing):
            with self.assertRaises(NoRoom):
                trace(HOUSE, rows, 0, thing)


class TestBounds(unittest.TestCase):
    def test_ordinary_bounds(self):
        self.assertEqual(bounds(HOUSE, (), 0), (ALL,))
        rows = ((1, "open", 0), (2, "seen", 0, 1), (3, "look", 0), (4, "shut", 0), (5, "look", 1), (6, "seen", 1, 3))
        self.assertEqual(bounds(HOUSE, rows, 0), ((0, 1), (0, 1), (0, 1), (0,), (0,)))
        self.assertEqual(bounds(HOUSE, rows, 1), ((3,),))

    def test_none_is_left(self):
        rows = ((1, "seen", 0, 4), (2, "look", 4), (3, "open", 0))
        self.assertEqual(bounds(HOUSE, rows, 0), ((4,), (), ()))

    def check(self, house, rows, p):
        told = bounds(house, rows, p)
        self.assertTrue(is_told(told))
        self.assertTrue(are_bounds(house, rows, p, told))
        self.assertIs(shows_bounds(house, rows, p, told), True)
        self.assertEqual(told[-1], rooms_for(house, rows, p))
        self.assertEqual(bounds(house, rows, p), told)
        # They are the least: without any one room of any one of them they are none.
        for k, rooms in enumerate(told):
            for at in range(len(rooms)):
                fewer = swapped(told, k, rooms[:at] + rooms[at + 1:])
                self.assertIs(shows_bounds(house, rows, p, fewer), False, (house, rows, p, fewer))

    def test_small_houses(self):
        for house, rows in small_trials(200):
            for p in (0, 1, 2):
                self.check(house, rows, p)
                # Each one has just the rooms in which a trace can be.
                found = all_traces(house, rows[:4], p)
                told = bounds(house, rows[:4], p)
                for k, rooms in enumerate(told[:-1]):
                    self.assertLessEqual({one[k] for one in found}, set(rooms))
                self.assertEqual({one[-1] for one in found}, set(told[-1]))

    def test_the_least_by_meeting_all_others(self):
        # All bounds of a house of two rooms: what is in each of them is the least.
        house, doors = (2, ((0, 1),)), ((), (0,), (1,), (0, 1))
        for rows in (((1, "look", 0), (2, "look", 1)), ((1, "seen", 0, 1), (2, "open", 0), (3, "look", 0)),
                     ((1, "seen", 0, 1), (2, "look", 1), (3, "open", 0)), ((1, "look", 1), (2, "seen", 1, 0))):
            told = bounds(house, rows, 0)
            some = [thing for thing in itertools.product(doors, repeat=len(told))
                    if are_bounds(house, rows, 0, thing)]
            for k, rooms in enumerate(told):
                self.assertEqual(set(rooms), set.intersection(*(set(thing[k]) for thing in some)))

    def test_great_houses(self):
        for house, rows in great_trials(8):
            told = bounds(house, rows, 0)
            self.assertTrue(are_bounds(house, rows, 0, told))
            self.assertIs(shows_bounds(house, rows, 0, told), True)
            self.assertEqual(told[-1], rooms_for(house, rows, 0))
            self.assertTrue(is_told(told))

    def test_handed_in_stays(self):
        rows = ((1, "seen", 0, 4), (2, "look", 4), (3, "open", 0))
        with Unchanged(self, HOUSE, rows):
            bounds(HOUSE, rows, 0)


class TestShowsBounds(unittest.TestCase):
    ROWS = ((1, "open", 0), (2, "seen", 0, 1), (3, "look", 0), (4, "shut", 0), (5, "look", 1))
    LEAST = ((0, 1), (0, 1), (0, 1), (0,))

    def check(self, rows, thing, wanted, p=0, house=HOUSE):
        self.assertIs(shows_bounds(house, rows, p, thing), wanted, repr((house, rows, p, thing)))

    def test_the_least_ones(self):
        self.assertEqual(bounds(HOUSE, self.ROWS, 0), self.LEAST)
        self.check(self.ROWS, self.LEAST, True)

    def test_greater_ones(self):
        self.check(self.ROWS, (ALL,) * 4, True)
        self.check(self.ROWS, ((0, 1), (0, 1), (0, 1), (0, 1)), True)
        self.check(self.ROWS, ((0, 1), (0, 1), (0, 1), ALL), True)
        # What is in one of them is looked for in the next one, too.
        self.check(self.ROWS, ((0, 1, 2), (0, 1), (0, 1), (0,)), False)
        self.check(self.ROWS, ((0, 1, 2), (0, 1, 2), (0, 1, 2), (0, 2)), True)
        self.check(self.ROWS, ((0, 1), (0, 1, 3), (0, 1, 3), (0, 3)), True)
        self.check(self.ROWS, ((0, 1), (0, 1, 3), (0, 1, 3), (0,)), False)

    def test_such_that_lack_a_room(self):
        self.check(self.ROWS, ((1,), (0, 1), (0, 1), (0,)), False)
        self.check(self.ROWS, ((0,), (0, 1), (0, 1), (0,)), False)
        self.check(self.ROWS, ((0, 1), (0,), (0, 1), (0,)), False)
        self.check(self.ROWS, ((0, 1), (0, 1), (1,), (0,)), False)
        self.check(self.ROWS, ((0, 1), (0, 1), (0, 1), ()), False)
        self.check(self.ROWS, ((), (), (), ()), False)

    def test_the_room_looked_at(self):
        rows = ((1, "seen", 0, 4), (2, "look", 4))
        self.check(rows, ((4,), ()), True)
        self.check(rows, ((4,), (4,)), True)
        self.check(rows, ((4,), (0,)), True)
        self.check(rows, ((3, 4), ()), False)
        self.check(rows, ((3, 4), (3,)), True)

    def test_never_seen_has_all_rooms(self):
        self.check((), (ALL,), True)
        for at in range(5):
            self.check((), (ALL[:at] + ALL[at + 1:],), False)

    def test_wrong_forms(self):
        for thing in (list(self.LEAST), self.LEAST[:3], self.LEAST + ((0,),), (self.LEAST,), (),
                      swapped(self.LEAST, 0, [0, 1]), swapped(self.LEAST, 0, (1, 0)), swapped(self.LEAST, 0, (0, 0, 1)),
                      swapped(self.LEAST, 3, (0, 5)), swapped(self.LEAST, 3, (-1, 0)), swapped(self.LEAST, 3, (False,)),
                      swapped(self.LEAST, 1, (0, True)), swapped(self.LEAST, 3, None), swapped(self.LEAST, 3, 0),
                      swapped(self.LEAST, 3, "0"), swapped(self.LEAST, 3, {0})):
            self.check(self.ROWS, thing, False)

    def test_with_one_thing_otherwise(self):
        tried = {True: 0, False: 0}
        for house, rows in [(HOUSE, self.ROWS)] + list(small_trials(60)):
            for thing in otherwise(bounds(house, rows, 0)):
                wanted = are_bounds(house, rows, 0, thing)
                self.check(rows, thing, wanted, 0, house)
                tried[wanted] += 1
        self.assertGreater(min(tried.values()), 100)

    def test_things_of_every_kind(self):
        for thing in all_things() + [nested(ALL, 39, lambda x: (x,))]:
            self.check(self.ROWS, thing, False)
            self.check((), thing, False)
            self.check((), (thing,), False)
            self.check((), ((0, 1, 2, 3, thing),), False)
            for at in range(4):
                self.check(self.ROWS, swapped(self.LEAST, at, thing), repr(thing) == repr(self.LEAST[at])
                           or (at == 3 and repr(thing) == "(0, 1)"))

    def test_some_rooms_of_small_houses(self):
        chance = random.Random(53)
        for house, rows in small_trials(200):
            for p in (0, 1):
                thing = [set(rooms) for rooms in bounds(house, rows, p)]
                for turn in range(3):
                    chance.choice(thing).add(chance.randrange(house[0]))
                    told = tuple(tuple(sorted(rooms)) for rooms in thing)
                    self.check(rows, told, are_bounds(house, rows, p, told), p, house)

    def test_no_trace_ends_outside_of_some_bounds(self):
        chance = random.Random(54)
        for house, rows in small_trials(60):
            ends = {rooms[-1] for rooms in all_traces(house, rows, 0)}
            many = len(since_by_words(house, rows, 0)[1]) + 1
            for turn in range(40):
                often = chance.choice((0.7, 0.9))
                thing = tuple(tuple(r for r in range(house[0]) if chance.random() < often) for k in range(many))
                if shows_bounds(house, rows, 0, thing):
                    self.assertLessEqual(ends, set(thing[-1]))

    def test_handed_in_stays(self):
        for thing in (self.LEAST, list(self.LEAST), ([0, 1], (0, 1), (0, 1), (0,)), {"a": [1]}):
            with Unchanged(self, HOUSE, self.ROWS, thing):
                first = shows_bounds(HOUSE, self.ROWS, 0, thing)
            self.assertIs(shows_bounds(HOUSE, self.ROWS, 0, thing), first)


if __name__ == "__main__":
    unittest.main()
