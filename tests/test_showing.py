"""Showing: how plans, houses and rows are written."""

import random
import unittest

from bellplaces.houses import is_house
from bellplaces.plans import is_plan
from bellplaces.rows import is_row
from bellplaces.showing import show_house, show_plan, show_row
from tests.greatest import GREAT_HOUSE, GREAT_PLAN
from tests.things import Unchanged
from tests.trials import some_house, some_plan

FAR = 10 ** 12 - 1


class TestShowing(unittest.TestCase):
    def check(self, show, thing, *rows):
        with Unchanged(self, thing):
            told = show(thing)
        self.assertIs(type(told), str)
        self.assertEqual(told, "\n".join(rows))
        self.assertEqual(show(thing), told)
        self.assertTrue(all(sign == "\n" or " " <= sign <= "~" for sign in told))


class TestShowPlan(TestShowing):
    def test_the_least(self):
        self.check(show_plan, (1, (None,), (((),),)), "plan 1", "place -", "watch")

    def test_one_post(self):
        self.check(show_plan, (3, (None,), ((((2,),),),)), "plan 3", "place -", "watch", "post 0 2")

    def test_posts_by_places_in_order(self):
        plan = (4, (None, 0, 1), ((((0, 1),), ((2, 1), (3, 0, 2), (1,)), ((3,),)),))
        self.check(show_plan, plan, "plan 4", "place -", "place 0", "place 1", "watch", "post 0 0 1", "post 1 2 1",
                   "post 1 3 0 2", "post 1 1", "post 2 3")

    def test_places_without_posts_and_watches_without_any(self):
        plan = (12, (None, 0, 0), (((), (), ()), ((), ((11, 10),), ()), ((), (), ()), (((0,),), (), ((1,), (1,)))))
        self.check(show_plan, plan, "plan 12", "place -", "place 0", "place 0", "watch", "watch", "post 1 11 10", "watch",
                   "watch", "post 0 0", "post 2 1", "post 2 1")

    def test_at_the_bounds(self):
        self.assertTrue(is_plan(GREAT_PLAN))
        text = show_plan(GREAT_PLAN)
        self.assertLessEqual(len(text), 20000)
        rows = text.split("\n")
        self.assertEqual(rows[:3], ["plan 30", "place -", "place 0"])
        self.assertEqual(len(rows), 1 + 20 + 6 * (1 + 20 * 6))
        self.assertEqual(rows[21], "watch")
        self.assertEqual([row for row in rows if row == "watch"], ["watch"] * 6)
        posts = [row.split(" ") for row in rows if row.startswith("post ")]
        self.assertEqual([int(words[1]) for words in posts], [v for w in range(6) for v in range(20) for k in range(6)])
        people = [tuple(int(word) for word in words[2:]) for words in posts]
        self.assertEqual(people, [post for watch in GREAT_PLAN[2] for place in watch for post in place])
        self.check(show_plan, GREAT_PLAN, *rows)


class TestShowHouse(TestShowing):
    def test_small_ones(self):
        self.check(show_house, (1, ()), "house 1")
        self.check(show_house, (45, ()), "house 45")
        self.check(show_house, (2, ((0, 1),)), "house 2", "door 0 1")
        self.check(show_house, (12, ((0, 11), (2, 3), (10, 11))), "house 12", "door 0 11", "door 2 3", "door 10 11")

    def test_at_the_bounds(self):
        self.assertTrue(is_house(GREAT_HOUSE))
        self.assertEqual((GREAT_HOUSE[0], len(GREAT_HOUSE[1])), (45, 60))
        self.check(show_house, GREAT_HOUSE, "house 45", *("door " + str(a) + " " + str(b) for a, b in GREAT_HOUSE[1]))


class TestShowRow(TestShowing):
    def test_each_kind(self):
        self.check(show_row, (0, "bell", 1, 0), "0 bell 1 0")
        self.check(show_row, (5, "count", 2, 3, 4, (0, 7)), "5 count 2 3 4 0 7")
        self.check(show_row, (12, "look", 10), "12 look 10")
        self.check(show_row, (7, "open", 59), "7 open 59")
        self.check(show_row, (7, "seen", 29, 44), "7 seen 29 44")
        self.check(show_row, (7, "shut", 0), "7 shut 0")

    def test_counts_without_names_and_with_thirty(self):
        self.check(show_row, (5, "count", 2, 3, 0, ()), "5 count 2 3 0")
        self.check(show_row, (5, "count", 2, 3, 4, (29,)), "5 count 2 3 4 29")
        everybody = tuple(range(30))
        self.check(show_row, (5, "count", 2, 3, 30, everybody), "5 count 2 3 30 " + " ".join(map(str, everybody)))

    def test_great_numbers(self):
        rows = ((FAR, "bell", FAR, 5), (FAR, "count", FAR, 19, FAR, (0, 29)), (10 ** 11, "look", 44))
        self.assertTrue(all(is_row(GREAT_PLAN, GREAT_HOUSE, row) for row in rows))
        self.check(show_row, rows[0], "999999999999 bell 999999999999 5")
        self.check(show_row, rows[1], "999999999999 count 999999999999 19 999999999999 0 29")
        self.check(show_row, rows[2], "100000000000 look 44")


class TestByTheWords(TestShowing):
    def test_plans_and_houses_of_any_form(self):
        chance = random.Random(81)
        for turn in range(60):
            people, ups, watches = plan = some_plan(chance, chance.randint(1, 12), chance.randint(1, 6), chance.randint(1, 4))
            rows = ["plan %d" % people] + ["place -" if up is None else "place %d" % up for up in ups]
            for watch in watches:
                rows.append("watch")
                for v in range(len(ups)):
                    for post in watch[v]:
                        rows.append("post %d" % v + "".join(" %d" % p for p in post))
            self.check(show_plan, plan, *rows)
            house = some_house(chance, chance.randint(1, 20))
            self.check(show_house, house, "house %d" % house[0], *("door %d %d" % door for door in house[1]))


if __name__ == "__main__":
    unittest.main()
