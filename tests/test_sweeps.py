"""Sweeps: moves, which rooms are foul behind each, which moves can't be, and what is a sweep."""

import random
import unittest

from bellplaces.errors import BellError, NoMove
from bellplaces.sweeps import shows_sweep, swept
from tests.plays import all_moves, beside, fork, is_plain_sweep, played, ring, star, way
from tests.things import Strange, Unchanged, all_things, is_told, nested, otherwise, swapped
from tests.trials import some_house

# Rooms in a way, 0 - 1 - 2 - 3, and room 4 without a door; doors 0, 1, 2.
HOUSE = (5, ((0, 1), (1, 2), (2, 3)))
ALL = (0, 1, 2)
WORDS = ("post", "take", "walk", "POST", "walk ", 3, 4, 5)


class TestSwept(unittest.TestCase):
    def check(self, moves, foul, many, house=HOUSE, doors=ALL):
        with Unchanged(self, house, doors, moves):
            told = swept(house, doors, moves)
        self.assertEqual(told, (foul, many))
        self.assertTrue(is_told(told))
        self.assertEqual(swept(house, doors, moves), told)

    def test_no_moves(self):
        self.check((), (0, 1, 2, 3, 4), 0)
        self.check((), (0,), 0, (1, ()), ())

    def test_post(self):
        self.check((("post", 4),), (0, 1, 2, 3), 1)
        self.check((("post", 1),), (0, 2, 3, 4), 1)
        self.check((("post", 0),), (), 1, (1, ()), ())

    def test_take(self):
        self.check((("post", 4), ("take", 4)), (0, 1, 2, 3), 1)
        self.check((("post", 1), ("take", 1)), (0, 1, 2, 3, 4), 1)

    def test_walk(self):
        self.check((("post", 0), ("walk", 0, 1)), (2, 3, 4), 1)
        self.check((("post", 0), ("walk", 0, 1), ("walk", 1, 2), ("walk", 2, 3)), (4,), 1)
        self.check((("post", 3), ("walk", 3, 2), ("walk", 2, 1)), (0, 4), 1)
        # Who walks back lets the room behind them become foul.
        self.check((("post", 0), ("walk", 0, 1), ("walk", 1, 0)), (1, 2, 3, 4), 1)
        self.check((("post", 1), ("walk", 1, 2)), (0, 1, 3, 4), 1)

    def test_nobody_slips_by_who_walks(self):
        self.check((("post", 0), ("walk", 0, 1)), (), 1, (2, ((0, 1),)), (0,))

    def test_a_room_where_one_of_several_goes(self):
        two = (("post", 1), ("post", 1))
        self.check(two, (0, 2, 3, 4), 2)
        self.check(two + (("take", 1),), (0, 2, 3, 4), 2)
        self.check(two + (("take", 1), ("take", 1)), (0, 1, 2, 3, 4), 2)
        self.check(two + (("walk", 1, 0),), (2, 3, 4), 2)
        self.check(two + (("walk", 1, 2),), (0, 3, 4), 2)
        self.check(two + (("walk", 1, 0), ("walk", 1, 2)), (3, 4), 2)
        self.check(two + (("walk", 1, 2), ("walk", 1, 2)), (0, 1, 3, 4), 2)

    def test_rooms_become_foul_again_near_and_far(self):
        swept_to_2 = (("post", 0), ("walk", 0, 1), ("walk", 1, 2))
        self.check(swept_to_2, (3, 4), 1)
        self.check(swept_to_2 + (("take", 2),), (0, 1, 2, 3, 4), 1)
        self.check(swept_to_2 + (("post", 1), ("take", 2)), (2, 3, 4), 2)
        self.check(swept_to_2 + (("post", 0), ("take", 2)), (1, 2, 3, 4), 2)

    def test_from_both_sides_and_around(self):
        house, doors = ring(6)
        self.check((("post", 0), ("post", 3)), (1, 2, 4, 5), 2, house, doors)
        self.check((("post", 0), ("post", 1), ("post", 2), ("take", 1)), (3, 4, 5), 3, house, doors)
        self.check((("post", 0), ("post", 1), ("post", 2), ("take", 1), ("take", 0)), (0, 1, 3, 4, 5), 3, house, doors)

    def test_not_through_shut_doors(self):
        moves = (("post", 0), ("walk", 0, 1), ("take", 1))
        self.check(moves, (2, 3, 4), 1, HOUSE, (0, 2))
        self.check(moves, (0, 1, 2, 3, 4), 1, HOUSE, (0, 1))
        self.check((("post", 1), ("take", 1)), (0, 2, 3, 4), 1, HOUSE, ())
        self.check((("post", 1), ("take", 1)), (0, 2, 3, 4), 1, HOUSE, (2,))
        self.check((("post", 2), ("post", 3), ("take", 2), ("take", 3)), (0, 1, 4), 2, HOUSE, (0, 2))

    def test_what_isnt_foul_stays_so_without_anybody(self):
        moves = tuple(("post", r) for r in range(5)) + tuple(("take", r) for r in range(5))
        self.check(moves, (), 5)

    def test_how_many_at_once_at_most(self):
        post, take = ("post", 4), ("take", 4)
        self.check((post, take, post, take), (0, 1, 2, 3), 1)
        self.check((post, post, take, post, take, take), (0, 1, 2, 3), 2)
        self.check((post, post, post, take, take, take, post), (0, 1, 2, 3), 3)
        self.check((("post", 0), ("post", 2), ("walk", 2, 3), ("walk", 0, 1)), (2, 4), 2)

    def refused(self, at, moves, house=HOUSE, doors=ALL):
        with Unchanged(self, house, doors, moves):
            with self.assertRaises(NoMove) as caught:
                swept(house, doors, moves)
        self.assertIs(type(caught.exception.at), int)
        self.assertEqual(caught.exception.at, at)
        self.assertIsInstance(caught.exception, BellError)
        self.assertFalse(shows_sweep(house, doors, 9, moves))

    def test_taken_from_where_none_is(self):
        self.refused(0, (("take", 0),))
        self.refused(1, (("post", 0), ("take", 1)))
        self.refused(2, (("post", 0), ("take", 0), ("take", 0)))
        self.refused(3, (("post", 0), ("walk", 0, 1), ("post", 2), ("take", 0)))

    def test_walking_from_where_none_is(self):
        self.refused(0, (("walk", 0, 1),))
        self.refused(2, (("post", 0), ("walk", 0, 1), ("walk", 0, 1)))
        self.refused(2, (("post", 0), ("take", 0), ("walk", 0, 1)))

    def test_walking_through_no_open_door(self):
        self.refused(1, (("post", 0), ("walk", 0, 2)))
        self.refused(1, (("post", 0), ("walk", 0, 0)))
        self.refused(1, (("post", 3), ("walk", 3, 4)))
        self.refused(1, (("post", 0), ("walk", 0, 1)), HOUSE, ())
        self.refused(1, (("post", 0), ("walk", 0, 1)), HOUSE, (1, 2))
        self.refused(1, (("post", 1), ("walk", 1, 0)), HOUSE, (1,))

    def test_the_first_of_several_that_cant_be(self):
        self.refused(0, (("take", 0), ("walk", 0, 4), ("take", 1)))
        self.refused(1, (("post", 0), ("walk", 0, 3), ("take", 3), ("take", 4)))
        self.refused(2, (("post", 0), ("post", 1), ("take", 2), ("walk", 0, 2)))

    def test_two_hundred_moves(self):
        self.check((("post", 0),) * 100 + (("take", 0),) * 100, (0, 1, 2, 3, 4), 100)
        self.refused(199, (("post", 0), ("take", 0)) * 99 + (("post", 0), ("walk", 0, 2)))
        house, doors = way(45)
        there = tuple(("walk", r, r + 1) for r in range(44))
        back = tuple(("walk", r + 1, r) for r in reversed(range(44)))
        self.check((("post", 0),) + there, (), 1, house, doors)
        self.check((("post", 0),) + there + back + there, (), 1, house, doors)

    def test_by_the_words(self):
        chance = random.Random(61)
        for turn in range(400):
            house = some_house(chance, chance.choice((1, 3, 5, 7)))
            doors = tuple(door for door in range(len(house[1])) if chance.random() < 0.7)
            moves, searchers = [], []
            for step in range(chance.randint(0, 14)):
                move = chance.choice(list(all_moves(house, doors, searchers, 4)))
                if chance.random() < 0.04:
                    move = ("walk", chance.randrange(house[0]), chance.randrange(house[0]))
                moves.append(move)
                if move[0] != "post" and move[1] in searchers:
                    searchers.remove(move[1])
                if move[0] != "take":
                    searchers.append(move[-1])
            wanted = played(house, doors, tuple(moves))
            if type(wanted) is int:
                self.refused(wanted, tuple(moves), house, doors)
            else:
                self.check(tuple(moves), wanted[0], wanted[1], house, doors)


class TestShowsSweep(unittest.TestCase):
    def check(self, wanted, house, doors, many, thing):
        told = shows_sweep(house, doors, many, thing)
        self.assertIs(told, wanted, (house, doors, many, thing))

    def test_as_many_more_and_fewer(self):
        for (house, doors), many, moves in self.right_ones():
            with Unchanged(self, house, doors, moves):
                self.check(True, house, doors, many, moves)
            self.check(True, house, doors, many + 1, moves)
            self.check(True, house, doors, many + 40, moves)
            self.check(False, house, doors, many - 1, moves)
            self.check(False, house, doors, 0, moves)

    def right_ones(self):
        walks = (("walk", 0, 1), ("walk", 1, 2), ("walk", 2, 3))
        yield way(1), 1, (("post", 0),)
        yield way(1), 1, (("post", 0), ("take", 0))
        yield way(4), 1, (("post", 0),) + walks
        yield way(4), 2, (("post", 0), ("post", 0)) + walks
        yield way(4), 4, tuple(("post", r) for r in range(4))
        yield star(4), 2, (("post", 1), ("walk", 1, 0), ("post", 2), ("take", 2), ("post", 3), ("take", 3), ("take", 0))
        yield star(4), 2, (("post", 0), ("post", 1), ("take", 1), ("post", 2), ("take", 2), ("walk", 0, 3))
        yield ring(4), 2, (("post", 0), ("post", 1), ("walk", 1, 2), ("walk", 2, 3))
        yield (HOUSE, ALL), 1, (("post", 0),) + walks + (("take", 3), ("post", 4))
        yield (HOUSE, ()), 1, sum(((("post", r), ("take", r)) for r in range(5)), ())
        yield beside(way(2), ring(3)), 2, (("post", 1), ("walk", 1, 0), ("take", 0), ("post", 4), ("post", 3),
                                           ("walk", 3, 2))

    def test_with_moves_left_out_twice_exchanged_or_others(self):
        counted = {True: 0, False: 0}
        for (house, doors), many, moves in self.right_ones():
            for thing in self.changed(moves):
                for number in (many - 1, many, many + 1):
                    wanted = is_plain_sweep(house, doors, number, thing)
                    self.check(wanted, house, doors, number, thing)
                    counted[wanted] += 1
        self.assertGreater(min(counted.values()), 100)

    def changed(self, moves):
        for at, move in enumerate(moves):
            yield moves[:at] + moves[at + 1:]
            yield moves[:at] + (move,) + moves[at:]
            for other in range(at):
                yield swapped(swapped(moves, at, moves[other]), other, move)
            for word in ("post", "take", "walk"):
                yield swapped(moves, at, (word,) + move[1:])
            for part in range(1, len(move)):
                for room in range(6):
                    yield swapped(moves, at, swapped(move, part, room))

    def test_with_one_thing_otherwise(self):
        for (house, doors), many, moves in self.right_ones():
            for thing in otherwise(moves, WORDS):
                self.check(is_plain_sweep(house, doors, many, thing), house, doors, many, thing)

    def test_no_moves(self):
        self.check(False, (1, ()), (), 5, ())
        self.check(False, HOUSE, ALL, 5, ())

    def test_a_foul_room_is_left(self):
        self.check(False, HOUSE, ALL, 5, (("post", 0), ("walk", 0, 1), ("walk", 1, 2), ("walk", 2, 3)))
        self.check(False, HOUSE, ALL, 5, (("post", 4),))
        self.check(False, *ring(3), 5, (("post", 0), ("post", 1)))
        # No room was foul once, but it isn't so behind all.
        house, doors = way(2)
        self.check(True, house, doors, 2, (("post", 0), ("post", 1), ("take", 0), ("take", 1)))
        house, doors = star(3)
        self.check(False, house, doors, 3, (("post", 0), ("post", 1), ("take", 0)))

    def test_rooms_that_are_none(self):
        for room in (1, 2, -1, 10 ** 40, True, False, None, "0", (0,), [0], Strange()):
            self.check(False, (1, ()), (), 3, (("post", 0), ("post", room)))
            self.check(False, (1, ()), (), 3, (("post", 0), ("take", room)))
            self.check(False, (1, ()), (), 3, (("post", 0), ("walk", 0, room)))
        self.check(False, *way(2), 3, (("post", 0), ("walk", False, True)))

    def test_lists_are_no_tuples(self):
        self.check(True, (1, ()), (), 1, (("post", 0),))
        self.check(False, (1, ()), (), 1, [("post", 0)])
        self.check(False, (1, ()), (), 1, (["post", 0],))

    def test_moves_of_other_forms(self):
        for move in ((), ("post",), ("post", 0, 0), ("take",), ("take", 0, 0), ("walk", 0), ("walk", 0, 0, 0), ("walk",),
                     ("Post", 0), ("", 0), (b"post", 0), (0, "post"), ("post", (0,)), (("post", 0),), "post", 0, None,
                     (["post"], 0), ({}, 0), (Strange(), 0), (nested("post", 38, lambda x: (x,)), 0)):
            self.check(False, (1, ()), (), 3, (("post", 0), move))
            self.check(False, (1, ()), (), 3, (move, ("post", 0)))

    def test_things_of_every_kind(self):
        for house, doors in ((HOUSE, ALL), (HOUSE, ()), way(2), fork(3)):
            for thing in all_things():
                for asked in (thing, (thing,), (("post", 0), thing), ("post", thing), (("post", thing),),
                              (("walk", 0, thing),), ((thing, 0),)):
                    with Unchanged(self, house, doors):
                        self.assertIs(shows_sweep(house, doors, 3, asked), False)


if __name__ == "__main__":
    unittest.main()
