"""Posts: manned against a trial of all ways, and what shows a post bare."""

import itertools
import random
import unittest

from bellplaces.posts import bare_paper, manned, shows_bare
from tests.things import Unchanged, all_things, is_told, things_but


def all_ways(posts, there):
    """Every way to take posts: for each one of its row who is there, or None, nobody twice."""
    rows = [[None] + [p for p in post if p in there] for post in posts]
    for way in itertools.product(*rows):
        people = [p for p in way if p is not None]
        if len(set(people)) == len(people):
            yield way


def best_way(posts, there):
    """The one way that the document tells, from a trial of all."""
    def rank(way):
        bare = tuple(p is None for p in way)
        spots = tuple(-1 if p is None else post.index(p) for p, post in zip(way, posts))
        return sum(bare), bare, spots
    return min(all_ways(posts, there), key=rank)


def subsets(items):
    """All tuples of some of the items, in their order."""
    for many in range(len(items) + 1):
        yield from itertools.combinations(items, many)


def small_cases():
    """All of up to three posts over three people, whoever is there."""
    rows = [row for many in (1, 2, 3) for row in itertools.permutations(range(3), many)]
    for many in range(3):
        for posts in itertools.product(rows, repeat=many):
            for there in subsets((0, 1, 2, 3)):
                yield posts, there
    for posts in itertools.product(rows, repeat=3):
        for there in ((0,), (1, 2), (0, 1, 2)):
            yield posts, there


def greater_cases():
    """Some of up to six posts of up to four people, most of whom are there; the same ones each time."""
    chance = random.Random(6)
    for turn in range(400):
        people = chance.choice((3, 4, 5, 6, 8))
        posts = tuple(
            tuple(chance.sample(range(people), chance.randint(1, min(4, people))))
            for post in range(chance.randint(1, 6))
        )
        yield posts, tuple(p for p in range(people + 2) if chance.random() < 0.7)


def shows(posts, there, way, q, numbers):
    """By the document's words, of a rising tuple of posts' numbers."""
    if not numbers or numbers[-1] != q or way[q] is not None:
        return False
    if [k for k in numbers if k != q and way[k] is None]:
        return False
    people = set()
    for k in numbers:
        people |= set(posts[k]) & set(there)
    return len(people) == len(numbers) - 1


class TestManned(unittest.TestCase):
    def test_no_posts(self):
        self.assertEqual(manned((), ()), ())
        self.assertEqual(manned((), (0, 1)), ())

    def test_nobody_there(self):
        self.assertEqual(manned(((0, 1), (2,)), ()), (None, None))

    def test_people_there_who_are_of_no_row(self):
        self.assertEqual(manned(((0, 1), (2,)), (3, 4, 29)), (None, None))
        self.assertEqual(manned(((0, 1), (2,)), (1, 3, 29)), (1, None))

    def test_the_first_one_comes_before_the_stand_ins(self):
        self.assertEqual(manned(((2, 0, 1),), (0, 1, 2)), (2,))
        self.assertEqual(manned(((2, 0, 1),), (0, 1)), (0,))
        self.assertEqual(manned(((2, 1, 0),), (0, 1)), (1,))

    def test_a_first_one_is_spared_for_another_post(self):
        self.assertEqual(manned(((0, 1), (0,)), (0, 1)), (1, 0))
        self.assertEqual(manned(((0, 1), (1, 2), (0,)), (0, 1, 2)), (1, 2, 0))

    def test_the_earlier_posts_first(self):
        self.assertEqual(manned(((0,), (0,)), (0,)), (0, None))
        self.assertEqual(manned(((0,), (0, 1), (1,)), (0, 1)), (0, 1, None))
        self.assertEqual(manned(((5,), (0,), (0,)), (0,)), (None, 0, None))

    def test_rows_alike(self):
        self.assertEqual(manned(((1, 0),) * 3, (0, 1)), (1, 0, None))
        self.assertEqual(manned(((2, 0, 1),) * 3, (0, 1, 2)), (2, 0, 1))

    def test_a_long_chain(self):
        posts = tuple((k, k + 1) for k in range(6))
        self.assertEqual(manned(posts, tuple(range(7))), (0, 1, 2, 3, 4, 5))
        self.assertEqual(manned(posts + ((0,),), tuple(range(7))), (1, 2, 3, 4, 5, 6, 0))

    def test_person_nought_is_somebody(self):
        self.assertEqual(manned(((0,),), (0,)), (0,))

    def check(self, posts, there):
        way = manned(posts, there)
        ways = list(all_ways(posts, there))
        self.assertIn(way, ways)
        taken = [q for q, p in enumerate(way) if p is not None]
        self.assertEqual(len(taken), max(sum(p is not None for p in other) for other in ways))
        for q, p in enumerate(way):
            if p is None:
                wanted = [k for k in taken if k < q] + [q]
                self.assertFalse(any(all(other[k] is not None for k in wanted) for other in ways))
        self.assertEqual(way, best_way(posts, there))

    def test_against_a_trial_of_all_ways_over_small_posts(self):
        for posts, there in small_cases():
            self.check(posts, there)

    def test_against_a_trial_of_all_ways_over_greater_posts(self):
        for posts, there in greater_cases():
            self.check(posts, there)

    def test_handed_in_stays_and_told_again(self):
        posts, there = ((2, 0), (0,), (2,)), (0, 2)
        with Unchanged(self, posts, there):
            first = manned(posts, there)
        self.assertEqual(first, (2, 0, None))
        self.assertEqual(manned(posts, there), first)
        self.assertTrue(is_told(first))


class TestShowsBare(unittest.TestCase):
    # Posts 0 and 1 hold all of 2's row; 3 is held by one of no other row, 4 is bare, too.
    POSTS = ((0, 1), (1, 0), (0, 1), (2,), (2, 0))
    THERE = (0, 1, 2)
    WAY = (0, 1, None, 2, None)

    def told(self, q, thing):
        return shows_bare(self.POSTS, self.THERE, self.WAY, q, thing)

    def test_the_way_is_manned_s(self):
        self.assertEqual(manned(self.POSTS, self.THERE), self.WAY)

    def test_a_paper(self):
        self.assertIs(self.told(2, (0, 1, 2)), True)
        self.assertIs(self.told(4, (0, 1, 3, 4)), True)

    def test_too_few_posts_or_too_many_people(self):
        for thing in ((2,), (0, 2), (1, 2), (0, 1), (0, 1, 2, 3), ()):
            self.assertIs(self.told(2, thing), False)
        self.assertIs(self.told(4, (3, 4)), False)

    def test_q_is_the_last_one(self):
        self.assertIs(self.told(1, (0, 1, 2)), False)
        self.assertIs(self.told(4, (0, 1, 2)), False)
        self.assertIs(self.told(2, (0, 1, 3, 4)), False)

    def test_q_is_bare(self):
        self.assertIs(shows_bare(((0,), (0,)), (0,), (0, None), 1, (0, 1)), True)
        self.assertIs(shows_bare(((0,), (0,)), (0,), (None, 0), 1, (0, 1)), False)
        self.assertIs(shows_bare(((0,), (0,)), (), (None, None), 1, (1,)), True)
        self.assertIs(shows_bare(((0,), (0,)), (), (0, 1), 1, (1,)), False)

    def test_all_others_are_taken(self):
        self.assertIs(self.told(4, (0, 1, 2, 3, 4)), False)
        self.assertIs(shows_bare(((0,), (1,), (0,)), (0,), (0, None, None), 2, (0, 2)), True)
        self.assertIs(shows_bare(((0,), (1,), (0,)), (0,), (0, None, None), 2, (0, 1, 2)), False)
        # As many people as are wanted, but one of the others is bare.
        self.assertIs(shows_bare(((0,), (0,)), (0,), (None, None), 1, (0, 1)), False)

    def test_just_one_fewer(self):
        # Two fewer shows a post bare, too, but is no such paper.
        self.assertIs(shows_bare(((0,), (0,), (0,)), (0,), (0, 0, None), 2, (0, 1, 2)), False)
        self.assertIs(shows_bare(((0,), (0,), (0,)), (0,), (0, 0, None), 2, (0, 2)), True)

    def test_people_are_counted_once_and_only_if_there(self):
        self.assertIs(shows_bare(((0, 5), (5, 0)), (0, 9), (0, None), 1, (0, 1)), True)
        self.assertIs(shows_bare(((0, 5), (5, 0)), (0, 5), (0, None), 1, (0, 1)), False)

    def test_wrong_numbers(self):
        for thing in ((0, 2, 1), (1, 0, 2), (0, 0, 1, 2), (0, 1, 1, 2), (0, 1, 2, 2), (-1, 0, 1, 2), (-5, 1, 2),
                      (-5, -4, 2), (0, 1, 5), (0, 1, 2, 5), (0, 1, -3), (False, 1, 2), (0, True, 2), [0, 1, 2],
                      (0, 1, "2"), (0, None, 2), (0, 1, (2,)), ((0, 1, 2),), "012", {0, 1, 2}, range(3), 2, None):
            self.assertIs(self.told(2, thing), False)
        self.assertIs(shows_bare(((0,), (0,)), (0,), (0, None), 1, (0, True)), False)

    def test_things_of_every_kind(self):
        for thing in all_things():
            for q in (2, 4):
                self.assertIs(self.told(q, thing), False)
        for thing in things_but((0,)):
            self.assertIs(shows_bare(((0,),), (), (None,), 0, thing), False)
        for thing in all_things():
            self.assertIs(shows_bare((), (), (), 0, thing), False)
            self.assertIs(self.told(2, (0, 1, thing, 2)), False)

    def test_all_rising_tuples_by_the_words(self):
        for posts, there in itertools.chain(itertools.islice(small_cases(), 0, None, 7), greater_cases()):
            way = manned(posts, there)
            for numbers in subsets(range(len(posts))):
                for q in range(len(posts)):
                    told = shows_bare(posts, there, way, q, numbers)
                    self.assertIs(told, shows(posts, there, way, q, numbers), (posts, there, q, numbers))

    def test_handed_in_stays(self):
        for thing in ((0, 1, 2), [0, 1, 2], (0, [1], 2), {"a": [1]}):
            with Unchanged(self, thing, self.POSTS, self.THERE, self.WAY):
                self.told(2, thing)


class TestBarePaper(unittest.TestCase):
    def test_ordinary_papers(self):
        self.assertEqual(bare_paper(((0, 1), (1, 0), (0, 1)), (0, 1), 2), (0, 1, 2))
        self.assertEqual(bare_paper(((0,), (1,), (0,)), (0, 1), 2), (0, 2))

    def test_nobody_of_its_row_is_there(self):
        self.assertEqual(bare_paper(((0,), (1, 2), (3,)), (0, 3), 1), (1,))
        self.assertEqual(bare_paper(((0,),), (), 0), (0,))

    def check(self, posts, there):
        way = manned(posts, there)
        for q, p in enumerate(way):
            if p is None:
                paper = bare_paper(posts, there, q)
                self.assertTrue(is_told(paper))
                self.assertTrue(shows(posts, there, way, q, paper), (posts, there, q, paper))
                self.assertIs(shows_bare(posts, there, way, q, paper), True)
                self.assertEqual(bare_paper(posts, there, q), paper)

    def test_each_bare_post_is_shown_bare(self):
        for posts, there in small_cases():
            self.check(posts, there)
        for posts, there in greater_cases():
            self.check(posts, there)

    def test_handed_in_stays(self):
        posts, there = ((2, 0), (0,), (2,)), (0, 2)
        with Unchanged(self, posts, there):
            self.assertEqual(bare_paper(posts, there, 2), (0, 1, 2))


if __name__ == "__main__":
    unittest.main()
