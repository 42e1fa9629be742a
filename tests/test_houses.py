"""Houses: what is one."""

import itertools
import unittest

from bellplaces.houses import is_house
from tests.things import Unchanged, all_things, things_but

PAIRS = tuple(itertools.combinations(range(45), 2))


class TestIsHouse(unittest.TestCase):
    def check(self, thing, wanted):
        self.assertIs(is_house(thing), wanted)

    def test_one_room(self):
        self.check((1, ()), True)
        self.check((0, ()), False)
        self.check((-1, ()), False)
        self.check((1, ((0, 0),)), False)
        self.check((1, ((0, 1),)), False)

    def test_no_doors(self):
        for rooms in range(1, 46):
            self.check((rooms, ()), True)

    def test_ordinary_houses(self):
        self.check((2, ((0, 1),)), True)
        self.check((4, ((0, 1), (0, 3), (1, 2), (2, 3))), True)
        self.check((5, ((3, 4),)), True)

    def test_just_as_many_as_the_bounds_allow_and_one_more(self):
        self.check((45, PAIRS[:60]), True)
        self.check((45, PAIRS[-60:]), True)
        self.check((45, PAIRS[:61]), False)
        self.check((46, ()), False)
        self.check((46, PAIRS[:60]), False)

    def test_doors_that_do_not_rise(self):
        self.check((4, ((0, 2), (0, 1))), False)
        self.check((4, ((1, 2), (0, 3))), False)
        self.check((4, ((0, 1), (2, 3), (1, 2))), False)
        self.check((4, ((0, 1), (1, 2), (2, 3))), True)

    def test_doors_twice(self):
        self.check((3, ((0, 1), (0, 1))), False)
        self.check((3, ((0, 1), (1, 2), (1, 2))), False)

    def test_doors_turned_about_or_to_the_same_room(self):
        self.check((3, ((1, 0),)), False)
        self.check((3, ((0, 1), (2, 1))), False)
        self.check((3, ((1, 1),)), False)

    def test_rooms_that_are_not_there(self):
        self.check((3, ((0, 3),)), False)
        self.check((3, ((0, 2),)), True)
        self.check((3, ((3, 4),)), False)
        self.check((3, ((-1, 0),)), False)
        self.check((3, ((-2, -1),)), False)
        self.check((3, ((0, 1), (0, 10 ** 11))), False)

    def test_all_small_houses_by_the_words(self):
        numbers = list(itertools.product(range(-1, 3), repeat=2))
        for rooms in (1, 2, 3):
            for doors in itertools.product(numbers, repeat=2):
                wanted = all(0 <= a < b < rooms for a, b in doors) and doors[0] < doors[1]
                self.check((rooms, doors), wanted)

    def test_things_of_every_kind(self):
        for thing in all_things():
            self.check(thing, repr(thing) in ("(1, ())", "(2, ())"))

    def test_parts_more_or_fewer(self):
        self.check((2,), False)
        self.check((2, ((0, 1),), ()), False)
        self.check((2, (0, 1)), False)
        self.check((2, (), ()), False)

    def test_wrong_kinds_at_every_depth(self):
        self.check([2, ((0, 1),)], False)
        self.check((2, [(0, 1)]), False)
        self.check((2, ([0, 1],)), False)
        for thing in things_but(1, 2, 5, 30, 31):
            self.check((thing, ()), False)
        for thing in things_but((), ((0, 1),)):
            self.check((3, thing), False)
        for thing in things_but((0, 1)):
            self.check((3, (thing,)), False)
            self.check((3, (thing, (1, 2))), False)
            self.check((3, ((0, 1), thing)), False)
        for thing in things_but(0):
            self.check((2, ((thing, 1),)), False)
            self.check((5, ((thing, 3, 4),)), False)
        for thing in things_but(1, 2):
            self.check((3, ((0, thing),)), False)

    def test_a_door_of_more_or_fewer_rooms(self):
        for door in ((), (0,), (0, 1, 2)):
            self.check((3, (door,)), False)

    def test_handed_in_stays_and_told_again(self):
        for thing in ((2, ((0, 1),)), [2, [[0, 1]]], (2, [[0, 1]]), {"rooms": [2]}):
            with Unchanged(self, thing):
                first = is_house(thing)
            self.assertIs(is_house(thing), first)


if __name__ == "__main__":
    unittest.main()
