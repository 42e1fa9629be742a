"""Plans: what is one, the tree of places, and who may come where."""

import itertools
import unittest

from bellplaces.plans import alike, apart, beneath, called, is_plan, line_up, may
from tests.things import Unchanged, all_things, deep_things, is_told, is_whole_tuple, swapped, things_but, wrong_kinds
from tests.trials import trees

# A tree with a way of three, a fork, and a leaf beside: 0 - (1 - (2 - 3, 4), 5).
UPS = (None, 0, 1, 2, 1, 0)
STAR = (None, 0, 0, 0, 0)
WAY = (None, 0, 1, 2, 3)

WATCH = (
    ((0, 1), (2,)),      # place 0
    ((1, 2), (1, 0)),    # place 1: person 1 twice, first one and first one again
    (),                  # place 2
    ((3, 1),),           # place 3
    ((4,), (4, 2)),      # place 4: person 4 twice
    ((2, 6),),           # place 5
)
NIGHT = ((), (), ((5,),), ((5, 3),), (), ())
PLAN = (7, UPS, (WATCH, NIGHT))


def plan_of(posts, people=3):
    """A plan of one place and one watch with these posts."""
    return (people, (None,), ((posts,),))


def under(ups, v):
    """By the document's words, another way than the program goes: v and what is under what is under it."""
    found = [v]
    for u in range(len(ups)):
        if ups[u] == v:
            found += under(ups, u)
    return found


class TestIsPlan(unittest.TestCase):
    def check(self, thing, wanted):
        self.assertIs(is_plan(thing), wanted)

    def test_plans_of_one_part_of_each_sort(self):
        self.check((1, (None,), (((),),)), True)
        self.check((1, (None,), ((((0,),),),)), True)

    def test_ordinary_plans(self):
        self.check(PLAN, True)
        self.check(plan_of(((2, 0, 1), (1, 2), (0,))), True)
        for ups in trees(4):
            self.check((2, ups, (((),) * 4, (((1, 0),),) * 4)), True)

    def test_just_as_many_as_the_bounds_allow(self):
        posts = tuple((k, k + 7, 29, k + 13) for k in range(6))
        for ups in ((None,) + tuple(range(19)), (None,) + (0,) * 19):
            self.check((30, ups, ((posts,) * 20,) * 6), True)

    def test_one_more_than_each_bound(self):
        self.check((30, (None,), (((),),)), True)
        self.check((31, (None,), (((),),)), False)
        self.check((1, (None,) + (0,) * 19, (((),) * 20,)), True)
        self.check((1, (None,) + (0,) * 20, (((),) * 21,)), False)
        self.check((1, (None,), (((),),) * 6), True)
        self.check((1, (None,), (((),),) * 7), False)
        self.check(plan_of(((0,),) * 6), True)
        self.check(plan_of(((0,),) * 7), False)
        self.check(plan_of(((0, 1, 2, 3),), 5), True)
        self.check(plan_of(((0, 1, 2, 3, 4),), 5), False)

    def test_a_bound_is_asked_of_each_place_and_each_watch(self):
        for at in range(3):
            watch = swapped(((),) * 3, at, ((0,),) * 7)
            self.check((1, (None, 0, 0), (((),) * 3, watch)), False)
            watch = swapped(((),) * 3, at, ((0,), (0, 1, 2, 3, 4)))
            self.check((5, (None, 0, 0), (watch, ((),) * 3)), False)

    def test_things_of_every_kind(self):
        for thing in all_things():
            self.check(thing, False)

    def test_parts_more_or_fewer(self):
        self.check(PLAN[:2], False)
        self.check(PLAN + ((),), False)
        self.check((), False)
        self.check(list(PLAN), False)

    def test_wrong_people(self):
        for thing in things_but(1, 2, 5, 30):
            self.check((thing, (None,), (((),),)), False)

    def test_wrong_ups(self):
        for thing in things_but((None,)):
            self.check((1, thing, (((),),)), False)
        self.check((1, [None], (((),),)), False)
        self.check((1, (), ((),)), False)
        self.check((1, (), ()), False)

    def test_the_first_up_is_none_and_no_other_one_is(self):
        for thing in things_but(None):
            self.check((1, (thing,), (((),),)), False)
            self.check((1, (thing, 0), (((), ()),)), False)
        self.check((1, (None, None), (((), ()),)), False)

    def test_ups_that_do_not_lie_above(self):
        for up in (-1, 2, 3, 10 ** 11, None, False, True, "0", (0,), [0]):
            self.check((1, (None, 0, up), (((),) * 3,)), False)
        self.check((1, (None, 1, 0), (((),) * 3,)), False)
        self.check((1, (None, 0, 1), (((),) * 3,)), True)
        for thing in wrong_kinds() + deep_things():
            self.check((1, (None, thing, 0), (((),) * 3,)), False)

    def test_wrong_watches(self):
        for thing in all_things():
            self.check((1, (None,), thing), False)
        self.check((1, (None,), ()), False)
        self.check((1, (None,), [((),)]), False)

    def test_wrong_watch(self):
        for thing in things_but(((),)):
            self.check((1, (None,), (thing,)), False)
            self.check((1, (None,), (((),), thing)), False)
        self.check((1, (None,), ([()],)), False)

    def test_a_watch_with_a_part_more_or_fewer_than_there_are_places(self):
        for many in range(6):
            self.check((1, (None, 0, 1), (((),) * many,)), many == 3)
            self.check((1, (None, 0, 1), (((),) * 3, ((),) * many)), many == 3)

    def test_wrong_posts(self):
        for thing in things_but((), ((0, 1),)):
            self.check(plan_of(thing), False)
        self.check(plan_of([(0,)]), False)

    def test_wrong_post(self):
        for thing in things_but((0,), (1,), (0, 1), (1, 0)):
            self.check(plan_of((thing,)), False)
            self.check(plan_of(((2,), thing)), False)
        self.check(plan_of(([0],)), False)
        self.check(plan_of(((),)), False)
        self.check(plan_of(((0,), ())), False)

    def test_wrong_person_of_a_post(self):
        for thing in things_but(0, 1, 2):
            self.check(plan_of(((thing,),)), False)
            self.check(plan_of(((0, thing),)), False)
        self.check(plan_of(((3,),)), False)
        self.check(plan_of(((2,),)), True)
        self.check(plan_of(((-1,),)), False)

    def test_a_person_twice_in_a_post(self):
        for post in ((0, 0), (0, 1, 0), (2, 1, 1), (0, 1, 2, 2)):
            self.check(plan_of((post,)), False)
            self.check(plan_of(((1, 2), post)), False)

    def test_a_person_in_two_posts_of_a_place(self):
        self.check(plan_of(((0, 1), (1, 0), (0, 1))), True)

    def test_things_handed_in_stay_as_they_were(self):
        for thing in (PLAN, [1, [None], [[[[0]]]]], (1, [None], [[[0]]]), {"a": [1, {2: 3}]}, list(PLAN)):
            with Unchanged(self, thing):
                first = is_plan(thing)
            self.assertIs(is_plan(thing), first)


class TestTrees(unittest.TestCase):
    def test_beneath(self):
        self.assertEqual(beneath(UPS, 0), (0, 1, 2, 3, 4, 5))
        self.assertEqual(beneath(UPS, 1), (1, 2, 3, 4))
        self.assertEqual(beneath(UPS, 2), (2, 3))
        self.assertEqual(beneath(UPS, 3), (3,))
        self.assertEqual(beneath(UPS, 4), (4,))
        self.assertEqual(beneath(UPS, 5), (5,))

    def test_line_up(self):
        self.assertEqual(line_up(UPS, 0), (0,))
        self.assertEqual(line_up(UPS, 3), (3, 2, 1, 0))
        self.assertEqual(line_up(UPS, 4), (4, 1, 0))
        self.assertEqual(line_up(UPS, 5), (5, 0))

    def test_apart(self):
        self.assertIs(apart(UPS, 3, 4), True)
        self.assertIs(apart(UPS, 4, 2), True)
        self.assertIs(apart(UPS, 1, 5), True)
        self.assertIs(apart(UPS, 1, 3), False)
        self.assertIs(apart(UPS, 3, 1), False)
        self.assertIs(apart(UPS, 0, 5), False)
        for v in range(6):
            self.assertIs(apart(UPS, v, v), False)
            self.assertIs(apart(UPS, v, 0), False)
            self.assertIs(apart(UPS, 0, v), False)

    def test_one_place(self):
        self.assertEqual(beneath((None,), 0), (0,))
        self.assertEqual(line_up((None,), 0), (0,))
        self.assertIs(apart((None,), 0, 0), False)

    def test_ways(self):
        for v in range(5):
            self.assertEqual(beneath(WAY, v), tuple(range(v, 5)))
            self.assertEqual(line_up(WAY, v), tuple(range(v, -1, -1)))
            for u in range(5):
                self.assertIs(apart(WAY, u, v), False)

    def test_stars(self):
        self.assertEqual(beneath(STAR, 0), (0, 1, 2, 3, 4))
        for v in range(1, 5):
            self.assertEqual(beneath(STAR, v), (v,))
            self.assertEqual(line_up(STAR, v), (v, 0))
            for u in range(1, 5):
                self.assertIs(apart(STAR, u, v), u != v)

    def test_all_small_trees_by_the_words(self):
        for places in range(1, 7):
            for ups in trees(places):
                for v in range(places):
                    self.assertEqual(beneath(ups, v), tuple(sorted(under(ups, v))))
                    line = (v,) if v == 0 else (v,) + line_up(ups, ups[v])
                    self.assertEqual(line_up(ups, v), line)
                    for u in range(places):
                        wanted = u not in under(ups, v) and v not in under(ups, u)
                        self.assertIs(apart(ups, u, v), wanted)

    def test_the_greatest_trees(self):
        way, star = (None,) + tuple(range(19)), (None,) + (0,) * 19
        self.assertEqual(beneath(way, 7), tuple(range(7, 20)))
        self.assertEqual(line_up(way, 19), tuple(range(19, -1, -1)))
        self.assertEqual(beneath(star, 0), tuple(range(20)))
        self.assertIs(apart(star, 18, 19), True)

    def test_kinds(self):
        for v in range(6):
            self.assertTrue(is_whole_tuple(beneath(UPS, v)))
            self.assertTrue(is_whole_tuple(line_up(UPS, v)))


class TestWatches(unittest.TestCase):
    def test_the_plan_is_one(self):
        self.assertIs(is_plan(PLAN), True)

    def test_may(self):
        self.assertEqual(may(PLAN, 0, 0), (0, 1))
        self.assertEqual(may(PLAN, 0, 1), (0, 1, 3))
        self.assertEqual(may(PLAN, 0, 2), (0, 1, 4, 5))
        self.assertEqual(may(PLAN, 0, 3), (3,))
        self.assertEqual(may(PLAN, 0, 4), (4,))
        self.assertEqual(may(PLAN, 0, 5), ())
        self.assertEqual(may(PLAN, 0, 6), (5,))

    def test_may_of_the_other_watch(self):
        self.assertEqual([may(PLAN, 1, p) for p in range(7)], [(), (), (), (3,), (), (2, 3), ()])

    def test_called(self):
        self.assertEqual(called(PLAN, 0), (0, 1, 2, 3, 4, 6))
        self.assertEqual(called(PLAN, 1), (3, 5))
        self.assertEqual(called((3, (None,), (((),),)), 0), ())
        self.assertEqual(called(plan_of(((2, 0),)), 0), (0, 2))

    def test_by_the_words(self):
        for watch in range(2):
            found = []
            for p in range(7):
                places = [v for v, posts in enumerate(PLAN[2][watch]) if p in sum(posts, ())]
                self.assertEqual(may(PLAN, watch, p), tuple(places))
                found += [p] if places else []
            self.assertEqual(called(PLAN, watch), tuple(found))

    def test_everybody_of_the_greatest_plan(self):
        posts = tuple(tuple(range(5 * k, 5 * k + 4)) for k in range(6))
        plan = (30, (None,) + (0,) * 19, (((),) * 20, (posts,) * 20))
        self.assertEqual(called(plan, 0), ())
        self.assertEqual(called(plan, 1), tuple(p for p in range(30) if p % 5 != 4))
        self.assertEqual(may(plan, 1, 28), tuple(range(20)))
        self.assertEqual(may(plan, 1, 29), ())

    def test_kinds(self):
        for watch in range(2):
            self.assertTrue(is_whole_tuple(called(PLAN, watch)))
            for p in range(7):
                self.assertTrue(is_whole_tuple(may(PLAN, watch, p)))


class TestAlike(unittest.TestCase):
    def check(self, plan, wanted):
        """wanted: the places at which watches 0 and 1 are alike."""
        for v in range(len(plan[1])):
            self.assertIs(alike(plan, 0, 1, v), v in wanted, v)
            self.assertIs(alike(plan, 1, 0, v), v in wanted, v)
            self.assertIs(alike(plan, 0, 0, v), True)

    def test_alike_at_all_places(self):
        self.check((7, UPS, (WATCH, WATCH)), range(6))
        self.check((7, UPS, (WATCH, tuple(tuple(tuple(post) for post in posts) for posts in WATCH))), range(6))

    def test_unlike_at_one_place(self):
        # Unlike in it and above it; alike under it and beside it.
        for at in range(6):
            other = swapped(WATCH, at, ((5,),))
            self.check((7, UPS, (WATCH, other)), [v for v in range(6) if v not in line_up(UPS, at)])

    def test_unlike_at_two_places(self):
        other = swapped(swapped(WATCH, 3, ()), 5, ())
        self.check((7, UPS, (WATCH, other)), [4])

    def test_a_post_more_or_fewer(self):
        self.check((7, UPS, (WATCH, swapped(WATCH, 4, WATCH[4][:1]))), [2, 3, 5])
        self.check((7, UPS, (WATCH, swapped(WATCH, 2, ((0,),)))), [3, 4, 5])

    def test_the_order_of_posts_counts(self):
        other = swapped(WATCH, 4, ((4, 2), (4,)))
        self.check((7, UPS, (WATCH, other)), [2, 3, 5])

    def test_the_order_of_people_within_a_post_counts(self):
        other = swapped(WATCH, 3, ((1, 3),))
        self.check((7, UPS, (WATCH, other)), [4, 5])

    def test_watches_by_their_numbers(self):
        plan = (7, UPS, (WATCH, NIGHT, WATCH, swapped(WATCH, 5, ())))
        self.assertIs(alike(plan, 0, 2, 0), True)
        self.assertIs(alike(plan, 0, 1, 0), False)
        self.assertIs(alike(plan, 2, 3, 0), False)
        self.assertIs(alike(plan, 2, 3, 1), True)
        self.assertIs(alike(plan, 1, 3, 5), True)


class TestAllOfPlans(unittest.TestCase):
    def test_asked_again_the_same_is_told_of_kinds_that_are_promised(self):
        asked = [
            lambda: is_plan(PLAN), lambda: beneath(UPS, 1), lambda: line_up(UPS, 3), lambda: apart(UPS, 1, 5),
            lambda: may(PLAN, 0, 2), lambda: called(PLAN, 0), lambda: alike(PLAN, 0, 1, 0),
        ]
        with Unchanged(self, PLAN, UPS):
            for ask in asked:
                first = ask()
                self.assertTrue(is_told(first))
                self.assertEqual(ask(), first)
                self.assertIs(type(ask()), type(first))


if __name__ == "__main__":
    unittest.main()
