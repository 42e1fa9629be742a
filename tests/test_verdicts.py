"""Verdicts: of each word, tried by the looks at papers and worlds and, for small cases, against all worlds."""

import random
import unittest

from bellplaces.cases import is_case, number_at, shows_none, shows_world
from bellplaces.errors import BellError, NoWorld
from bellplaces.verdicts import away, counted, must, shows_verdict, span, verdict, world_with
from tests.things import Strange, Unchanged, all_things, is_told, nested, otherwise, swapped
from tests.trials import all_worlds, is_paper, numbers_of, small_cases, some_case, star_of, way_of

# 0 - (1 - (2, 3), 4). Four people: one of them must, one may come nowhere.
UPS = (None, 0, 1, 1, 0)
PEOPLE = (((1, 2), False), ((2, 3), True), ((0, 4), False), ((), False))
CASE = (UPS, (None, 2, None, 1, None), PEOPLE)
# The same, in which no world fits: three are counted where two may come.
NONE = (UPS, (None, 3, None, 1, None), PEOPLE)
FAR = 10 ** 12 - 1


def with_may_and_must(case, i, may, bound):
    """The case with another person i."""
    return case[0], case[1], swapped(case[2], i, (may, bound))


def is_plain_paper(case, thing):
    """By the words, of anything: whether it is a paper that no world fits."""
    if type(thing) is not tuple or len(thing) != 2 or type(thing[0]) is not str or thing[0] not in ("few", "many"):
        return False
    places = thing[1]
    if type(places) is not tuple or not all(type(v) is int and 0 <= v < len(case[0]) for v in places):
        return False
    return sorted(set(places)) == list(places) and is_paper(case, thing)


def is_plain_world(worlds, thing):
    """By the words, of anything: whether it is one of these worlds."""
    if type(thing) is not tuple or not all(place is None or type(place) is int for place in thing):
        return False
    return thing in worlds


def is_plain_verdict(case, worlds, i, thing):
    """By the words, of anything: whether it is a verdict of person i; worlds are all that fit."""
    if type(thing) is not tuple or not thing or type(thing[0]) is not str:
        return False
    may, bound = case[2][i]
    if thing[0] == "lacks" and len(thing) == 2:
        return is_plain_paper(with_may_and_must(case, i, may, True), thing[1])
    if thing[0] == "there" and len(thing) == 2:
        return is_plain_paper(with_may_and_must(case, i, (), bound), thing[1])
    if thing[0] == "open" and len(thing) == 3 and all(is_plain_world(worlds, part) for part in thing[1:]):
        return thing[1][i] is not None and thing[2][i] is None
    return False


def word_by_worlds(worlds, i):
    """The word of person i by all worlds that fit."""
    found = {world[i] is None for world in worlds}
    return "open" if len(found) == 2 else "lacks" if True in found else "there"


class TestChangedCases(unittest.TestCase):
    def test_must_of_first_and_last_people(self):
        self.assertEqual(must(CASE, 0), (UPS, CASE[1], (((1, 2), True),) + PEOPLE[1:]))
        self.assertEqual(must(CASE, 3), (UPS, CASE[1], PEOPLE[:3] + (((), True),)))
        self.assertEqual(must(CASE, 2), (UPS, CASE[1], PEOPLE[:2] + (((0, 4), True), ((), False))))

    def test_must_of_one_who_must(self):
        self.assertEqual(must(CASE, 1), CASE)

    def test_away_of_first_and_last_people(self):
        self.assertEqual(away(CASE, 0), (UPS, CASE[1], (((), False),) + PEOPLE[1:]))
        self.assertEqual(away(CASE, 3), CASE)
        self.assertEqual(away(CASE, 2), (UPS, CASE[1], PEOPLE[:2] + (((), False), ((), False))))

    def test_away_of_one_who_must(self):
        self.assertEqual(away(CASE, 1), (UPS, CASE[1], PEOPLE[:1] + (((), True),) + PEOPLE[2:]))

    def test_counted_of_first_and_last_places(self):
        self.assertEqual(counted(CASE, 0, 7), (UPS, (7, 2, None, 1, None), PEOPLE))
        self.assertEqual(counted(CASE, 4, 0), (UPS, (None, 2, None, 1, 0), PEOPLE))
        self.assertEqual(counted(CASE, 2, FAR), (UPS, (None, 2, FAR, 1, None), PEOPLE))

    def test_of_one_person_and_one_place(self):
        case = ((None,), (None,), (((0,), False),))
        self.assertEqual(must(case, 0), ((None,), (None,), (((0,), True),)))
        self.assertEqual(away(case, 0), ((None,), (None,), (((), False),)))
        self.assertEqual(counted(case, 0, 1), ((None,), (1,), (((0,), False),)))

    def test_kinds_and_handed_in_stays(self):
        with Unchanged(self, CASE):
            for told in (must(CASE, 0), away(CASE, 1), counted(CASE, 2, 3)):
                self.assertTrue(is_told(told) and is_case(told))


class TestVerdict(unittest.TestCase):
    def check(self, case, i, wanted):
        told = verdict(case, i)
        self.assertEqual(told[0], wanted, (case, i))
        self.assertTrue(is_told(told) and type(told) is tuple)
        if wanted == "open":
            word, one, other = told
            self.assertTrue(shows_world(case, one) and shows_world(case, other), (case, i))
            self.assertTrue(one[i] is not None and other[i] is None, (case, i))
        else:
            word, paper = told
            changed = must(case, i) if wanted == "lacks" else away(case, i)
            self.assertTrue(shows_none(changed, paper) and is_paper(changed, paper), (case, i))
        self.assertIs(shows_verdict(case, i, told), True)
        return told

    def test_of_an_ordinary_case(self):
        # At 3 there is person 1, so at 1 and 2 one more: person 0. Nothing tells whether 2 is there; 3 can't be.
        for i, word in enumerate(("there", "there", "open", "lacks")):
            self.check(CASE, i, word)

    def test_nothing_is_counted(self):
        case = (UPS, (None,) * 5, PEOPLE)
        for i, word in enumerate(("open", "there", "open", "lacks")):
            self.check(case, i, word)

    def test_all_are_counted(self):
        self.check((star_of(3), (2, None, None), (((1,), False), ((2,), False))), 0, "there")
        self.check((star_of(3), (2, None, None), (((1,), False), ((2,), False))), 1, "there")
        self.check((star_of(3), (0, None, None), (((1,), False), ((2,), False))), 0, "lacks")
        self.check((star_of(3), (1, None, None), (((1,), False), ((2,), False))), 0, "open")

    def test_one_s_being_there_tells_of_another(self):
        people = (((0,), False), ((0,), True))
        self.check(((None,), (1,), people), 0, "lacks")
        self.check(((None,), (1,), people), 1, "there")
        self.check(((None,), (2,), people), 0, "there")
        self.check(((None,), (None,), people), 0, "open")

    def test_papers_of_a_must_person(self):
        self.assertTrue(is_paper(away(CASE, 1), self.check(CASE, 1, "there")[1]))

    def test_small_cases_against_all_worlds(self):
        found = {"there": 0, "lacks": 0, "open": 0, "none": 0}
        for case in small_cases(random.Random(21), 800):
            worlds = list(all_worlds(case))
            for i in range(len(case[2])):
                if worlds:
                    word = word_by_worlds(worlds, i)
                    self.check(case, i, word)
                    found[word] += 1
                else:
                    self.check_refused(case, i)
                    found["none"] += 1
        self.assertGreater(min(found.values()), 50)

    def check_refused(self, case, i):
        with self.assertRaises(NoWorld) as caught:
            verdict(case, i)
        paper = caught.exception.paper
        self.assertTrue(is_told(paper) and shows_none(case, paper) and is_paper(case, paper))

    def test_no_world(self):
        for i in range(4):
            self.check_refused(NONE, i)
        self.check_refused(((None,), (0,), (((0,), True),)), 0)
        self.check_refused(((None,), (None,), (((), True), ((0,), False))), 1)
        self.check_refused((way_of(20), (FAR,) * 20, ((tuple(range(20)), False),) * 30), 29)

    def test_great_cases(self):
        chance = random.Random(22)
        for turn in range(60):
            case = some_case(chance, 20, 30)
            for i in (0, len(case[2]) - 1):
                if i in range(len(case[2])):
                    try:
                        told = verdict(case, i)
                    except NoWorld as error:
                        self.assertTrue(is_paper(case, error.paper))
                    else:
                        self.check(case, i, told[0])

    def test_who_was_told_stays_so_when_a_place_is_counted(self):
        # A place without a count gets one that a world that fits bears.
        tried = 0
        for case in small_cases(random.Random(23), 200):
            worlds = list(all_worlds(case))
            for world in worlds[:2] + worlds[-1:]:
                for v, number in enumerate(numbers_of(case[0], world)):
                    if case[1][v] is None:
                        for i in range(len(case[2])):
                            before, after = verdict(case, i)[0], verdict(counted(case, v, number), i)[0]
                            if before != "open":
                                self.assertEqual(after, before)
                                tried += 1
        self.assertGreater(tried, 100)

    def test_told_again_and_handed_in_stays(self):
        for case in (CASE, (UPS, (None,) * 5, PEOPLE)):
            for i in range(4):
                with Unchanged(self, case):
                    first = verdict(case, i)
                self.assertEqual(verdict(case, i), first)


class TestShowsVerdict(unittest.TestCase):
    def check(self, case, i, thing, wanted):
        self.assertIs(shows_verdict(case, i, thing), wanted, repr((case, i, thing)))

    def test_papers(self):
        self.check(CASE, 0, ("there", ("few", (1, 2, 3))), True)
        self.check(CASE, 0, ("lacks", ("few", (1, 2, 3))), False)
        self.check(CASE, 3, ("lacks", ("many", ())), True)
        self.check(CASE, 3, ("there", ("many", ())), False)
        self.check(CASE, 1, ("there", ("many", ())), True)

    def test_worlds(self):
        here, gone = (1, 3, 4, None), (2, 3, None, None)
        self.check(CASE, 2, ("open", here, gone), True)
        self.check(CASE, 2, ("open", gone, here), False)
        self.check(CASE, 2, ("open", here, here), False)
        self.check(CASE, 2, ("open", gone, gone), False)
        self.check(CASE, 0, ("open", here, gone), False)
        self.check(CASE, 2, ("open", (1, 3, 1, None), gone), False)
        self.check(CASE, 2, ("open", here, (None, 3, None, None)), False)

    def test_whether_a_world_fits_is_not_asked_beside(self):
        for i in range(4):
            for word in ("there", "lacks"):
                self.check(NONE, i, (word, ("few", (1, 2, 3))), True)

    def test_the_other_words(self):
        here, gone = (1, 3, 4, None), (2, 3, None, None)
        paper = ("few", (1, 2, 3))
        for word in ("", "None", "There", "there ", "none", "world", b"there", None, True, 0, ("there",), Strange()):
            self.check(CASE, 0, (word, paper), False)
            self.check(CASE, 2, (word, here, gone), False)
        self.check(CASE, 0, ("open", paper), False)
        self.check(CASE, 2, ("there", here, gone), False)
        self.check(CASE, 0, ("there", paper, paper), False)
        self.check(CASE, 0, ("there",) + paper, False)
        self.check(CASE, 2, ("open", (here, gone)), False)
        self.check(CASE, 2, ("open", here, gone, gone), False)

    def test_what_was_told_with_one_thing_otherwise(self):
        tried = {True: 0, False: 0}
        for case in small_cases(random.Random(24), 80, 3, 3) + [CASE]:
            worlds = list(all_worlds(case))
            for i in range(len(case[2])):
                if worlds:
                    for thing in otherwise(verdict(case, i)):
                        wanted = is_plain_verdict(case, worlds, i, thing)
                        self.check(case, i, thing, wanted)
                        tried[wanted] += 1
        self.assertGreater(min(tried.values()), 100)

    def test_of_another_person(self):
        for case in small_cases(random.Random(25), 100):
            worlds = list(all_worlds(case))
            for i in range(len(case[2])):
                told = verdict(case, i) if worlds else ("lacks", ("many", ()))
                for other in range(len(case[2])):
                    self.check(case, other, told, is_plain_verdict(case, worlds, other, told))

    def test_things_of_every_kind(self):
        deep = nested(("few", (1, 2, 3)), 37, lambda x: (x,))
        for i in range(4):
            for thing in all_things() + [deep, ("there",), ("lacks",), ("open",), ()]:
                self.check(CASE, i, thing, False)
                for word in ("lacks", "there", "open"):
                    self.check(CASE, i, (word, thing), False)
                    self.check(CASE, i, (word, thing, thing), False)
                    self.check(CASE, i, (word, ("few", thing)), False)
                    self.check(CASE, i, (word, (thing, (1, 2, 3))), False)
                self.check(CASE, i, (thing, ("few", (1, 2, 3))), False)
                self.check(CASE, i, ("open", (1, 3, 4, None), thing), False)
                self.check(CASE, i, ("open", thing, (2, 3, None, None)), False)

    def test_handed_in_stays(self):
        for thing in (("there", ("few", (1, 2, 3))), ["there", ("few", [1])], ("open", [1, 3, 4, None], {}), {"a": [1]}):
            with Unchanged(self, CASE, thing):
                first = shows_verdict(CASE, 0, thing)
            self.assertIs(shows_verdict(CASE, 0, thing), first)


class TestSpanAndWorldWith(unittest.TestCase):
    def check(self, case, v, low, high):
        """Try span, and world_with of each number between, below and above."""
        told = span(case, v)
        self.assertEqual(told, (low, high), (case, v))
        self.assertTrue(is_told(told) and type(told) is tuple)
        if case[1][v] is None:
            for n in range(low, high + 1):
                world = world_with(case, v, n)
                self.assertTrue(is_told(world) and shows_world(case, world), (case, v, n))
                self.assertEqual(number_at(case[0], world, v), n)
            for n in [*range(low), high + 1, high + 2, FAR]:
                self.check_refused(case, v, n)

    def check_refused(self, case, v, n):
        with self.assertRaises(NoWorld) as caught:
            world_with(case, v, n)
        paper = caught.exception.paper
        self.assertTrue(is_told(paper) and shows_none(counted(case, v, n), paper), (case, v, n))
        self.assertTrue(is_paper(counted(case, v, n), paper))

    def test_of_an_ordinary_case(self):
        for v, (low, high) in enumerate(((2, 3), (2, 2), (0, 1), (1, 1), (0, 1))):
            self.check(CASE, v, low, high)

    def test_nobody(self):
        self.check(((None,), (None,), ()), 0, 0, 0)
        self.check(((None,), (0,), ()), 0, 0, 0)

    def test_all_may_come_and_some_must(self):
        people = (((0,), True),) * 3 + (((0, 1), True),) * 4 + (((0, 1), False),) * 23
        self.check(((None, 0), (None, None), people), 0, 7, 30)
        self.check(((None, 0), (None, None), people), 1, 0, 27)
        self.check(((None, 0), (20, None), people), 1, 0, 17)
        self.check(((None, 0), (None, 20), people), 0, 23, 30)

    def test_small_cases_against_all_worlds(self):
        for case in small_cases(random.Random(26), 400):
            numbers = [numbers_of(case[0], world) for world in all_worlds(case)]
            for v in range(len(case[0])):
                if numbers:
                    there = {number[v] for number in numbers}
                    # All between the least and the greatest is the number of some world.
                    self.assertEqual(there, set(range(min(there), max(there) + 1)))
                    self.check(case, v, min(there), max(there))
                else:
                    self.check_no_span(case, v)
                    if case[1][v] is None:
                        for n in (0, 1, 5):
                            self.check_refused(case, v, n)

    def check_no_span(self, case, v):
        with self.assertRaises(NoWorld) as caught:
            span(case, v)
        paper = caught.exception.paper
        self.assertTrue(is_told(paper) and shows_none(case, paper) and is_paper(case, paper))

    def test_no_world(self):
        for v in range(5):
            self.check_no_span(NONE, v)
        self.check_no_span(((None,), (FAR,), ()), 0)
        self.check_no_span(((None,), (None,), (((), True),)), 0)

    def test_great_cases(self):
        chance = random.Random(27)
        for turn in range(15):
            case = some_case(chance, 20, 30)
            try:
                told = [span(case, v) for v in range(len(case[0]))]
            except NoWorld as error:
                self.assertTrue(is_paper(case, error.paper))
            else:
                for v, (low, high) in enumerate(told):
                    self.check(case, v, low, high)

    def test_told_again_and_handed_in_stays(self):
        for asked in (lambda: span(CASE, 0), lambda: world_with(CASE, 0, 3), lambda: span(CASE, 1)):
            with Unchanged(self, CASE):
                first = asked()
            self.assertEqual(asked(), first)

    def test_refused_of_the_one_class_alone(self):
        for asked in (lambda: span(NONE, 0), lambda: verdict(NONE, 0), lambda: world_with(NONE, 0, 1)):
            with self.assertRaises(BellError) as caught:
                asked()
            self.assertIs(type(caught.exception), NoWorld)


if __name__ == "__main__":
    unittest.main()
