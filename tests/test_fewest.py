"""The fewest searchers: kinds of parts, and for trees and rings the number, the sweep and the tower."""

import itertools
import random
import unittest

from bellplaces.errors import BellError, NoKind
from bellplaces.fewest import fewest, kind_of, sweep, tower
from bellplaces.logs import parts
from bellplaces.sweeps import shows_sweep, swept
from bellplaces.towers import shows_tower
from tests.plays import (beside, can_sweep, fork, is_plain_sweep, is_plain_tower, ring, shuffled, small_trees, star,
                         tree_of, way, whole)
from tests.things import Unchanged, is_told
from tests.trials import some_house, some_tree

# A ring with a room hung on it, a ring with a door through it, two rings that share a room.
HUNG = whole(4, [(0, 1), (1, 2), (0, 2), (2, 3)])
THROUGH = whole(4, [(0, 1), (1, 2), (2, 3), (0, 3), (0, 2)])
SHARED = whole(5, [(0, 1), (1, 2), (0, 2), (2, 3), (3, 4), (2, 4)])
OTHERS = (HUNG, THROUGH, SHARED)


class TestKindOf(unittest.TestCase):
    def check(self, asked, *kinds):
        house, doors = asked
        with Unchanged(self, house, doors):
            told = tuple(kind_of(house, doors, room) for room in range(house[0]))
        self.assertEqual(told, kinds)
        self.assertTrue(is_told(told))
        self.assertEqual(tuple(kind_of(house, doors, room) for room in range(house[0])), told)

    def test_single_rooms(self):
        self.check(way(1), "tree")
        self.check(beside(way(1), way(1), way(1)), "tree", "tree", "tree")

    def test_trees(self):
        for asked in (way(2), way(45), star(3), star(45), fork(2), fork(4), tree_of((None, 0, 1, 1, 0))):
            self.check(asked, *["tree"] * asked[0][0])
        for asked in small_trees(5):
            self.check(asked, *["tree"] * asked[0][0])

    def test_rings(self):
        for many in (3, 4, 5, 45):
            self.check(ring(many), *["ring"] * many)

    def test_others(self):
        for asked in OTHERS:
            self.check(asked, *["other"] * asked[0][0])
        self.check(whole(4, itertools.combinations(range(4), 2)), *["other"] * 4)
        # As many doors as rooms, as a ring has, but not two for each.
        self.check(whole(5, [(0, 1), (0, 2), (1, 2), (0, 3), (0, 4)]), *["other"] * 5)

    def test_several_parts(self):
        self.check(beside(way(2), ring(3), HUNG, way(1)), *["tree"] * 2, *["ring"] * 3, *["other"] * 4, "tree")
        # As many doors as a tree of all these rooms had; but these are two parts.
        self.check(beside(ring(3), way(1)), "ring", "ring", "ring", "tree")
        self.check(beside(ring(3), ring(3)), *["ring"] * 6)
        # Parts whose rooms are mixed.
        self.check(whole(6, [(0, 2), (2, 4), (0, 4), (1, 3), (3, 5)]), "ring", "tree", "ring", "tree", "ring", "tree")

    def test_doors_that_are_shut(self):
        house, doors = SHARED
        self.check((house, ()), *["tree"] * 5)
        for shut in doors:
            still = tuple(door for door in doors if door != shut)
            self.check((house, still), *["other"] * 5)
        self.check((house, tuple(door for door in doors if 2 in house[1][door] and 0 not in house[1][door])),
                   *["tree"] * 5)
        self.check((house, tuple(door for door in doors if max(house[1][door]) < 3)), *["ring"] * 3, "tree", "tree")
        house, doors = HUNG
        self.check((house, doors[:3]), "ring", "ring", "ring", "tree")
        self.check((house, doors[1:]), "tree", "tree", "tree", "tree")

    def test_by_counting(self):
        chance = random.Random(71)
        for turn in range(200):
            house = some_house(chance, chance.choice((1, 4, 6, 9)))
            doors = tuple(door for door in range(len(house[1])) if chance.random() < 0.6)
            for part in parts(house, doors):
                inside = [house[1][door] for door in doors if house[1][door][0] in part]
                kind = "tree" if len(inside) == len(part) - 1 else "other"
                if all(sum(room in pair for pair in inside) == 2 for room in part):
                    kind = "ring"
                for room in part:
                    self.assertEqual(kind_of(house, doors, room), kind)


class TestFewest(unittest.TestCase):
    def check(self, many, asked):
        """That it is so many, shown by the sweep and the tower."""
        house, doors = asked
        with Unchanged(self, house, doors):
            told = fewest(house, doors), sweep(house, doors), tower(house, doors)
        self.assertTrue(is_told(told))
        self.assertEqual((fewest(house, doors), sweep(house, doors), tower(house, doors)), told)
        self.assertEqual(told[0], many)
        self.assertTrue(shows_sweep(house, doors, many, told[1]))
        self.assertFalse(shows_sweep(house, doors, many - 1, told[1]))
        self.assertEqual(swept(house, doors, told[1]), ((), many))
        self.assertTrue(is_plain_sweep(house, doors, many, told[1]))
        self.assertTrue(is_plain_tower(house, doors, many, told[2]))
        for high in range(0, 7):
            self.assertIs(shows_tower(house, doors, high, told[2]), high == many)
        self.assertLessEqual(len(told[1]), 200)

    def test_ways(self):
        for rooms in (1, 2, 3, 4, 10, 45):
            self.check(1, way(rooms))

    def test_a_single_room(self):
        self.assertEqual(fewest((1, ()), ()), 1)
        self.assertEqual(tower((1, ()), ()), ("room", 0))

    def test_stars(self):
        self.check(1, star(3))
        for rooms in (4, 5, 20, 45):
            self.check(2, star(rooms))

    def test_rings(self):
        for rooms in (3, 4, 5, 44, 45):
            self.check(2, ring(rooms))

    def test_forks(self):
        for height in (1, 2, 3, 4):
            self.check(height, fork(height))

    def test_forks_called_by_other_numbers(self):
        chance = random.Random(72)
        for turn in range(5):
            for height in (2, 3, 4):
                self.check(height, shuffled(chance, fork(height)[0]))

    def test_forks_that_lack_a_room(self):
        for height in (2, 3, 4):
            house, doors = fork(height)
            # Behind a shut door the last room is a part of its own, and the rest wants one fewer.
            last = [door for door in doors if house[0] - 1 in house[1][door]]
            self.check(height - 1, (house, tuple(door for door in doors if door not in last)))

    def test_branches_of_which_two_want_as_many_as_the_tree(self):
        # A way whose rooms each have a fork hung on them: no room has three branches that want two.
        pairs, rooms = [(r, r + 1) for r in range(6)], 7
        for r in range(7):
            pairs += [(r, rooms), (rooms, rooms + 1), (rooms, rooms + 2), (rooms, rooms + 3)]
            rooms += 4
        self.check(3, whole(rooms, pairs))
        # A way whose rooms each have two rooms hung on them.
        self.check(2, whole(45, [(r, r + 1) for r in range(14)] + [(r % 15, r) for r in range(15, 45)]))
        # Two forks of three, joined by a long way.
        pairs, rooms = fork(3)[0][1], 13
        more = [(a + 13, b + 13) for a, b in pairs]
        self.check(3, whole(45, list(pairs) + more + [(r, r + 1) for r in range(26, 44)] + [(4, 26), (44, 25)]))

    def test_trees_of_any_form(self):
        chance = random.Random(73)
        found = set()
        for turn in range(120):
            house, doors = shuffled(chance, tree_of(some_tree(chance, chance.choice((7, 13, 20, 45))))[0])
            many = self.wanted(house, doors)
            found.add(many)
            self.check(many, (house, doors))
        self.assertLessEqual({1, 2, 3}, found)

    def wanted(self, house, doors):
        """How many a tree wants: one more than the third one of the branches of some room, the greatest first."""
        near = {room: [] for room in range(house[0])}
        for door in doors:
            a, b = house[1][door]
            near[a].append(b)
            near[b].append(a)

        def branch(rooms, start):
            found, waiting = {start}, [start]
            while waiting:
                for other in near[waiting.pop()]:
                    if other in rooms and other not in found:
                        found.add(other)
                        waiting.append(other)
            return frozenset(found)

        known = {}

        def least(rooms):
            if rooms not in known:
                most = 1
                for room in rooms:
                    rest = rooms - {room}
                    next_ones = [other for other in near[room] if other in rest]
                    if len(next_ones) >= 3:
                        most = max(most, sorted([least(branch(rest, other)) for other in next_ones])[-3] + 1)
                known[rooms] = most
            return known[rooms]

        return least(frozenset(range(house[0])))

    def test_that_no_play_with_fewer_leaves_no_room_foul(self):
        for house, doors in itertools.chain(small_trees(6), map(ring, (3, 4, 5, 6, 7))):
            many = fewest(house, doors)
            self.check(many, (house, doors))
            self.assertFalse(can_sweep(house, doors, many - 1))
        for house, doors in (fork(3), tree_of((None, 0, 0, 0, 1, 1, 2, 2, 3, 3, 6, 8))):
            self.assertFalse(can_sweep(house, doors, fewest(house, doors) - 1))

    def test_of_small_houses_of_any_doors(self):
        pairs = tuple(itertools.combinations(range(5), 2))
        others = 0
        for many in range(6):
            for doors in itertools.combinations(range(len(pairs)), many):
                house = (5, pairs)
                if "other" in [kind_of(house, doors, room) for room in range(5)]:
                    others += 1
                    continue
                least = fewest(house, doors)
                self.check(least, (house, doors))
                self.assertFalse(can_sweep(house, doors, least - 1))
        self.assertGreater(others, 100)

    def test_that_of_several_parts_the_greatest_counts(self):
        self.check(1, beside(way(1), way(1), way(1)))
        self.check(1, beside(way(3), way(2), way(1)))
        self.check(2, beside(way(3), star(4), way(1)))
        self.check(2, beside(way(3), ring(3), way(1)))
        self.check(2, beside(ring(3), star(5), ring(4)))
        self.check(3, beside(ring(3), fork(3), star(5)))
        self.check(3, beside(fork(3), ring(30)))
        self.check(4, beside(ring(3), fork(4), way(2)))
        self.check(4, beside(way(2), way(1), fork(4), way(1), way(1)))
        self.check(1, (((45, ())), ()))

    def test_doors_that_are_shut(self):
        house, doors = fork(3)
        self.check(1, (house, ()))
        self.check(2, (house, tuple(door for door in doors if 0 not in house[1][door])))
        house, doors = ring(5)
        for shut in doors:
            self.check(1, (house, tuple(door for door in doors if door != shut)))
        house, doors = SHARED
        self.check(2, (house, tuple(door for door in doors if house[1][door][0] > 1)))
        self.check(2, (house, tuple(door for door in doors if house[1][door] not in ((0, 1), (3, 4)))))

    def refused(self, room, asked):
        house, doors = asked
        for function in (fewest, sweep, tower):
            with Unchanged(self, house, doors):
                with self.assertRaises(NoKind) as caught:
                    function(house, doors)
            self.assertIs(type(caught.exception.room), int)
            self.assertEqual(caught.exception.room, room)
            self.assertIsInstance(caught.exception, BellError)

    def test_no_kind(self):
        for asked in OTHERS:
            self.refused(0, asked)
            self.refused(0, beside(asked, way(3), ring(3)))
            self.refused(3, beside(way(3), asked))
            self.refused(6, beside(way(3), ring(3), asked, way(1)))
        self.refused(0, whole(4, itertools.combinations(range(4), 2)))

    def test_no_kind_of_several_parts(self):
        self.refused(2, beside(way(2), HUNG, SHARED))
        self.refused(3, beside(ring(3), SHARED, THROUGH, HUNG))

    def test_no_kind_of_parts_whose_rooms_are_mixed(self):
        self.refused(1, whole(8, [(0, 2), (2, 4), (1, 5), (5, 6), (1, 6), (6, 7)]))
        self.refused(1, whole(8, [(0, 2), (2, 4), (1, 5), (5, 6), (5, 7), (6, 7)]))

    def test_no_kind_goes_by_the_open_doors(self):
        house, doors = HUNG
        self.refused(0, HUNG)
        self.check(2, (house, doors[:3]))
        self.check(1, (house, doors[:2]))


if __name__ == "__main__":
    unittest.main()
