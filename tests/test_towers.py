"""Towers: rooms, rings and forks, and how high each is."""

import itertools
import random
import unittest

from bellplaces.towers import shows_tower
from tests.plays import beside, can_sweep, fork, heights, is_plain_tower, ring, star, tree_of, way, whole
from tests.things import Strange, Unchanged, all_things, nested, otherwise, swapped
from tests.trials import some_house

WORDS = ("room", "ring", "fork", "Room", 3, 4, 5, 6, ("room", 1), ("room", 0))
# Room 0 with three rings: 1 2 3, 4 5 6 7 and 8 9 10, and a room 11 that is joined to 10 alone.
RINGS = whole(12, [(0, 1), (1, 2), (2, 3), (1, 3), (0, 4), (4, 5), (5, 6), (6, 7), (4, 7), (0, 8), (8, 9), (9, 10),
                   (8, 10), (10, 11)])
OF_RINGS = ("fork", 0, ("ring", 1, 2, 3), ("ring", 4, 5, 6, 7), ("ring", 10, 8, 9))
# The least tree of height 3: 0 with 1, 5, 9, each of them with three rooms.
OF_FORKS = ("fork", 0) + tuple(("fork", r, ("room", r + 1), ("room", r + 2), ("room", r + 3)) for r in (1, 5, 9))


def full_tower(height, first=0):
    """The tower of what plays.fork has, and how many rooms that has."""
    if height == 1:
        return ("room", first), 1
    towers, many = [], 1
    for branch in range(3):
        one, size = full_tower(height - 1, first + many)
        towers.append(one)
        many += size
    return ("fork", first, *towers), many


class TestShowsTower(unittest.TestCase):
    def check(self, high, asked, thing):
        """That the thing is a tower so high, and not of any other height; 0 for none."""
        house, doors = asked
        with Unchanged(self, house, doors):
            for many in range(-1, 7):
                told = shows_tower(house, doors, many, thing)
                self.assertIs(told, high > 0 and many == high, (asked, many, thing))

    def test_rooms(self):
        for asked in (way(1), way(3), ring(4), ((3, ((0, 1),)), ())):
            for room in range(asked[0][0]):
                self.check(1, asked, ("room", room))
            self.check(0, asked, ("room", asked[0][0]))

    def test_rooms_that_are_none(self):
        for thing in (("room",), ("room", -1), ("room", 0, 1), ("room", 0, 0), ("room", True), ("room", None),
                      ("room", "0"), ("room", (0,)), ("room", [0]), ["room", 0], ("Room", 0), ("rooms", 0), (0, "room"),
                      (b"room", 0), ("room", Strange()), (Strange(), 0), ("room", 10 ** 40), "room", 0, None, ()):
            self.check(0, way(3), thing)

    def test_rings(self):
        for many in (3, 4, 5, 45):
            asked = ring(many)
            there = tuple(range(many))
            for start in (0, 1, many - 1):
                around = there[start:] + there[:start]
                self.check(2, asked, ("ring",) + around)
                self.check(2, asked, ("ring",) + around[::-1])

    def test_rings_in_houses_with_more_doors(self):
        every = whole(5, [(a, b) for b in range(5) for a in range(b)])
        self.check(2, every, ("ring", 0, 1, 2, 3, 4))
        self.check(2, every, ("ring", 4, 1, 0, 3))
        self.check(2, every, ("ring", 2, 0, 4))
        self.check(2, beside(way(3), ring(3)), ("ring", 5, 3, 4))

    def test_rings_that_an_open_door_lacks(self):
        house, doors = ring(5)
        around = ("ring", 0, 1, 2, 3, 4)
        self.check(2, (house, doors), around)
        for shut in doors:
            self.check(0, (house, tuple(door for door in doors if door != shut)), around)
        self.check(0, way(5), around)
        self.check(0, (house, doors), ("ring", 0, 1, 2))
        self.check(0, (house, doors), ("ring", 0, 2, 1, 3, 4))

    def test_rings_that_have_a_room_twice(self):
        self.check(0, ring(3), ("ring", 0, 1, 2, 0, 1, 2))
        self.check(0, ring(3), ("ring", 0, 1, 2, 1))
        self.check(0, way(2), ("ring", 0, 1, 0, 1))
        self.check(0, ring(4), ("ring", 0, 1, 2, 1, 2, 3))

    def test_rings_of_fewer_than_three(self):
        self.check(0, way(2), ("ring", 0, 1))
        self.check(0, way(2), ("ring", 0))
        self.check(0, way(2), ("ring",))
        self.check(0, ring(3), ("ring", 0, 1))

    def test_rings_with_rooms_that_are_none(self):
        for room in (3, -1, True, False, None, "0", (0,), [0], Strange(), 10 ** 40):
            for at in (1, 2, 3):
                self.check(0, ring(3), swapped(("ring", 0, 1, 2), at, room))
        self.check(0, ring(3), ("ring", (0, 1, 2)))

    def test_forks_of_rooms(self):
        self.check(2, star(4), ("fork", 0, ("room", 1), ("room", 2), ("room", 3)))
        self.check(2, star(4), ("fork", 0, ("room", 3), ("room", 1), ("room", 2)))
        self.check(2, star(6), ("fork", 0, ("room", 5), ("room", 1), ("room", 3)))
        # A room that is far in the branch.
        far = whole(7, [(0, 1), (1, 4), (0, 2), (2, 5), (0, 3), (3, 6)])
        self.check(2, far, ("fork", 0, ("room", 4), ("room", 2), ("room", 6)))

    def test_forks_of_rings(self):
        self.check(3, RINGS, OF_RINGS)
        self.check(3, RINGS, swapped(swapped(OF_RINGS, 2, OF_RINGS[4]), 4, OF_RINGS[2]))

    def test_forks_of_forks(self):
        self.check(3, fork(3), OF_FORKS)
        for height in (1, 2, 3, 4):
            self.check(height, fork(height), full_tower(height)[0])

    def test_forks_of_forks_and_rings(self):
        asked = whole(12, [(0, 1), (1, 2), (1, 3), (1, 4), (0, 5), (5, 6), (6, 7), (5, 7), (0, 8), (8, 9), (9, 10),
                           (10, 11), (8, 11)])
        self.check(3, asked, ("fork", 0, ("fork", 1, ("room", 2), ("room", 3), ("room", 4)), ("ring", 5, 6, 7),
                              ("ring", 8, 9, 10, 11)))

    def test_a_branch_whose_ring_goes_through_more_doors_of_the_forks_room(self):
        # Room 0 has two doors to the branch 1 2 3, which stays one branch.
        asked = whole(6, [(0, 1), (0, 3), (1, 2), (2, 3), (0, 4), (0, 5)])
        self.check(2, asked, ("fork", 0, ("room", 2), ("room", 4), ("room", 5)))
        self.check(0, asked, ("fork", 0, ("room", 1), ("room", 3), ("room", 4)))
        self.check(2, asked, ("ring", 0, 1, 2, 3))

    def test_forks_whose_branches_are_not_of_one_height(self):
        one, two = ("room", 2), ("fork", 1, ("room", 2), ("room", 3), ("room", 4))
        self.check(0, fork(3), swapped(OF_FORKS, 2, one))
        self.check(0, fork(3), swapped(OF_FORKS, 3, ("room", 5)))
        self.check(0, fork(3), swapped(OF_FORKS, 4, ("room", 9)))
        self.check(2, fork(3), ("fork", 0, one, ("room", 5), ("room", 9)))
        self.check(0, fork(3), ("fork", 0, two, ("room", 5), ("room", 9)))
        self.check(0, RINGS, swapped(OF_RINGS, 2, ("room", 1)))

    def test_forks_whose_branches_stand_in_the_same_part(self):
        self.check(0, star(4), ("fork", 0, ("room", 1), ("room", 1), ("room", 3)))
        self.check(0, star(4), ("fork", 0, ("room", 1), ("room", 2), ("room", 2)))
        self.check(0, fork(3), ("fork", 0, ("room", 1), ("room", 2), ("room", 5)))
        self.check(0, fork(3), swapped(OF_FORKS, 3, OF_FORKS[2]))
        self.check(0, ring(4), ("fork", 0, ("room", 1), ("room", 2), ("room", 3)))
        # A way back to the same part that doesn't go through the fork's room.
        self.check(0, whole(4, [(0, 1), (0, 2), (0, 3), (1, 2)]), ("fork", 0, ("room", 1), ("room", 2), ("room", 3)))

    def test_forks_with_a_branch_to_which_the_room_has_no_open_door(self):
        house, doors = star(4)
        thing = ("fork", 0, ("room", 1), ("room", 2), ("room", 3))
        for shut in doors:
            self.check(0, (house, tuple(door for door in doors if door != shut)), thing)
        self.check(0, beside(star(3), way(1)), thing)
        self.check(0, beside(way(1), way(1), way(1), way(1)), thing)
        self.check(0, way(5), ("fork", 2, ("room", 1), ("room", 3), ("room", 4)))
        # Within a fork's branch, a part that is joined only through the outer fork's room is none of it.
        outer = ("fork", 0, ("fork", 1, ("room", 2), ("room", 3), ("room", 5)), OF_FORKS[3], OF_FORKS[4])
        self.check(0, fork(3), outer)

    def test_forks_that_use_their_room_again(self):
        self.check(0, star(4), ("fork", 0, ("room", 0), ("room", 2), ("room", 3)))
        self.check(0, fork(3), swapped(OF_FORKS, 2, ("fork", 0, ("room", 2), ("room", 3), ("room", 4))))
        self.check(0, fork(3), swapped(OF_FORKS, 2, ("fork", 1, ("room", 2), ("room", 3), ("room", 0))))
        # A ring that would have to go through the fork's room.
        asked = whole(6, [(0, 1), (0, 2), (1, 2), (0, 3), (0, 4), (0, 5)])
        self.check(0, asked, ("fork", 0, ("ring", 0, 1, 2), ("room", 3), ("room", 4)))
        self.check(2, asked, ("fork", 0, ("room", 1), ("room", 3), ("room", 4)))

    def test_a_branch_that_reaches_over_into_another_part(self):
        inner = ("fork", 1, ("room", 2), ("room", 3), ("room", 6))
        self.check(0, fork(3), swapped(OF_FORKS, 2, inner))
        self.check(0, RINGS, swapped(OF_RINGS, 2, ("ring", 1, 2, 4)))

    def test_forks_of_another_form(self):
        one, two, three = ("room", 1), ("room", 2), ("room", 3)
        for thing in (("fork",), ("fork", 0), ("fork", 0, one), ("fork", 0, one, two), ("fork", one, two, three),
                      ("fork", 0, one, two, three, three), ("fork", 0, (one, two, three)), ["fork", 0, one, two, three],
                      ("fork", 0, 1, 2, 3), ("fork", 0, one, two, list(three)), ("fork", False, one, two, three),
                      ("fork", None, one, two, three), ("fork", 9, one, two, three), ("fork", -1, one, two, three),
                      ("fork", 0, one, two, ()), ("fork", 0, one, two, ("room",)), ("fork", 0, one, two, ("ring", 3)),
                      ("fork", 0, one, two, ("room", True)), ("fork", 1, ("room", 0), two, three),
                      ("Fork", 0, one, two, three), ("room", 0, one, two, three), ("ring", 0, one, two, three)):
            self.check(0, star(4), thing)

    def test_with_one_thing_otherwise_at_every_depth(self):
        for high, (house, doors), tower in ((1, way(4), ("room", 2)), (2, ring(5), ("ring", 0, 1, 2, 3, 4)),
                                            (2, star(5), ("fork", 0, ("room", 1), ("room", 2), ("room", 4))),
                                            (3, RINGS, OF_RINGS), (3, fork(3), OF_FORKS)):
            for thing in otherwise(tower, WORDS):
                for many in (high - 1, high, high + 1):
                    wanted = is_plain_tower(house, doors, many, thing)
                    self.assertIs(shows_tower(house, doors, many, thing), wanted, (many, thing))

    def test_things_of_every_kind(self):
        for house, doors in (way(2), ring(3), star(4), RINGS):
            for thing in all_things():
                for asked in (thing, (thing,), ("room", thing), ("ring", 0, 1, thing), ("ring", thing), (thing, 0),
                              ("fork", 0, ("room", 1), ("room", 2), thing), ("fork", thing, ("room", 1), ("room", 2),
                                                                             ("room", 3)), ("fork", 0, thing, thing, thing)):
                    for many in (0, 1, 2, 3):
                        with Unchanged(self, house, doors):
                            told = shows_tower(house, doors, many, asked)
                        self.assertIs(told, is_plain_tower(house, doors, many, asked), (many, asked))

    def test_things_nested_forty_deep(self):
        room = ("room", 1)
        for asked in (fork(4), star(45), RINGS, ring(4)):
            for wrap in (lambda x: ("fork", 0, x, x, x), lambda x: ("fork", 0, x, room, ("room", 2)),
                         lambda x: ("ring", x), lambda x: ("room", x), lambda x: ("fork", 0, ("room", 2), room, x)):
                for bottom in (room, ("ring", 1, 2, 3), Strange()):
                    self.check(0, asked, nested(bottom, 38, wrap))
        # One thing three times at every depth, with another room at each.
        thing = ("room", 44)
        for r in reversed(range(38)):
            thing = ("fork", r, thing, thing, thing)
        self.check(0, star(45), thing)
        self.check(0, way(45), thing)
        self.check(0, fork(4), thing)

    def test_by_the_words(self):
        chance = random.Random(62)
        seen = set()
        for turn in range(3000):
            house = chance.choice((star(4), star(5), fork(3), RINGS))[0]
            if chance.random() < 0.5:
                house = some_house(chance, chance.choice((4, 5, 7, 9)))
            doors = tuple(door for door in range(len(house[1])) if chance.random() < 0.9)
            thing = self.some_tower(chance, house[0], 2)
            high = heights(house, doors, set(range(house[0])), thing) or 0
            seen.add((thing[0], high))
            self.check(high, (house, doors), thing)
        self.assertLessEqual({("room", 1), ("ring", 0), ("ring", 2), ("fork", 0), ("fork", 2)}, seen)

    def some_tower(self, chance, rooms, depth):
        word = chance.choice(("room", "ring", "fork", "fork") if depth else ("room",))
        if word == "room":
            return word, chance.randrange(rooms)
        if word == "ring":
            return (word, *chance.sample(range(rooms), chance.choice((3, 3, 4))))
        deeper = chance.choice((0, 0, depth - 1))
        return (word, chance.randrange(rooms), *(self.some_tower(chance, rooms, deeper) for branch in range(3)))

    def test_no_sweep_has_fewer_searchers(self):
        pairs = tuple(itertools.combinations(range(4), 2))
        rings = [("ring", *rooms) for many in (3, 4) for rooms in itertools.permutations(range(4), many)]
        forks = [("fork", r, ("room", a), ("room", b), ("room", c)) for r, a, b, c in itertools.permutations(range(4))]
        for many in range(len(pairs) + 1):
            for doors in itertools.combinations(range(len(pairs)), many):
                if any(shows_tower((4, pairs), doors, 2, thing) for thing in rings + forks):
                    self.assertFalse(can_sweep((4, pairs), doors, 1))
        for (house, doors), thing, high in ((star(4), ("fork", 0, ("room", 1), ("room", 2), ("room", 3)), 2),
                                            (tree_of((None, 0, 0, 0, 1)), full_tower(2)[0], 2),
                                            (ring(5), ("ring", 0, 1, 2, 3, 4), 2), (fork(3), OF_FORKS, 3)):
            self.assertTrue(shows_tower(house, doors, high, thing))
            self.assertFalse(can_sweep(house, doors, high - 1))


if __name__ == "__main__":
    unittest.main()
