"""The promise over the whole program, (a) to (h) of point 3, and what point 2 says of all of it."""

import ast
import importlib
import inspect
import itertools
import os
import random
import unittest

from bellplaces import errors
from bellplaces.books import Book
from bellplaces.cases import number_at, shows_none, shows_world
from bellplaces.desk import Desk
from bellplaces.errors import BellError, Crossed, NoKind, NoWorld
from bellplaces.fewest import fewest, kind_of, sweep, tower
from bellplaces.fits import fit
from bellplaces.force import bells, case_of, crossing, standing, twice
from bellplaces.houses import is_house
from bellplaces.logs import log, open_doors, parts
from bellplaces.musters import lacking, told
from bellplaces.plans import alike, apart, beneath, called, is_plan
from bellplaces.posts import bare_paper, manned, shows_bare
from bellplaces.reading import read_house, read_plan, read_row
from bellplaces.rooms import bounds, rooms_for, shows_bounds, shows_trace, trace
from bellplaces.rows import is_row
from bellplaces.showing import show_house, show_plan, show_row
from bellplaces.sweeps import shows_sweep, swept
from bellplaces.towers import shows_tower
from bellplaces.verdicts import away, counted, must, shows_verdict, span, verdict, world_with
from tests.plays import can_sweep
from tests.things import Unchanged, is_told
from tests.trials import all_worlds, small_cases, some_house, some_log, some_plan, some_rows

INTERFACE = {
    "plans": ("is_plan", "beneath", "line_up", "apart", "may", "called", "alike"),
    "posts": ("manned", "shows_bare", "bare_paper"),
    "houses": ("is_house",),
    "rows": ("is_row",),
    "books": ("Book",),
    "force": ("bells", "standing", "twice", "crossing", "case_of"),
    "cases": ("is_case", "number_at", "shows_world", "shows_none"),
    "fits": ("fit",),
    "verdicts": ("must", "away", "counted", "verdict", "shows_verdict", "span", "world_with"),
    "musters": ("told", "lacking"),
    "logs": ("log", "open_doors", "parts"),
    "rooms": ("shows_trace", "rooms_for", "trace", "shows_bounds", "bounds"),
    "sweeps": ("swept", "shows_sweep"),
    "towers": ("shows_tower",),
    "fewest": ("kind_of", "fewest", "sweep", "tower"),
    "showing": ("show_plan", "show_house", "show_row"),
    "reading": ("read_plan", "read_house", "read_row"),
    "desk": ("Desk",),
}
ARGUMENTS = {
    "is_plan": 1, "beneath": 2, "line_up": 2, "apart": 3, "may": 3, "called": 2, "alike": 4, "manned": 2, "shows_bare": 5,
    "bare_paper": 3, "is_house": 1, "is_row": 3, "Book": 2, "bells": 1, "standing": 3, "twice": 3, "crossing": 3,
    "case_of": 3, "is_case": 1, "number_at": 3, "shows_world": 2, "shows_none": 2, "fit": 1, "must": 2, "away": 2,
    "counted": 3, "verdict": 2, "shows_verdict": 3, "span": 2, "world_with": 3, "told": 3, "lacking": 3, "log": 1,
    "open_doors": 1, "parts": 2, "shows_trace": 4, "rooms_for": 3, "trace": 4, "shows_bounds": 4, "bounds": 3, "swept": 3,
    "shows_sweep": 4, "shows_tower": 4, "kind_of": 3, "fewest": 2, "sweep": 2, "tower": 2, "show_plan": 1,
    "show_house": 1, "show_row": 1, "read_plan": 1, "read_house": 1, "read_row": 1, "Desk": 2,
}


def some_muster(chance, names=2):
    """A small plan and rows of it with a bell that was rung."""
    plan = some_plan(chance, chance.randint(2, 5), chance.randint(1, 4), chance.randint(1, 3))
    while True:
        rows = some_rows(chance, plan, chance.randint(2, 8), bells=2, moments=6, names=names)
        if bells(rows):
            return plan, rows, chance.choice(bells(rows))[0]


class TestInterface(unittest.TestCase):
    def test_all_names_with_their_arguments(self):
        for module, names in INTERFACE.items():
            held = importlib.import_module("bellplaces." + module)
            for name in names:
                taken = inspect.signature(getattr(held, name)).parameters
                self.assertEqual(len(taken), ARGUMENTS[name], name)
                self.assertEqual(getattr(held, name).__module__, "bellplaces." + module)

    def test_methods_stand_in_their_classes(self):
        for held, names in ((Book, ("add", "rows", "join")), (Desk, ("say",))):
            for name in names:
                self.assertIn(name, vars(held))

    def test_refusals(self):
        self.assertEqual(errors.BellError.__bases__, (ValueError,))
        plain = ("NoPlan", "NoHouse", "NoRow", "NoBell", "NoRoom", "NoLine", "NoPerson", "NoPlace")
        valued = {"Crossed": "why", "NoWorld": "paper", "NoMove": "at", "NoKind": "room", "NoText": "row"}
        for name in plain + tuple(valued):
            self.assertEqual(getattr(errors, name).__bases__, (BellError,))
        for name, value in valued.items():
            self.assertEqual(vars(getattr(errors, name)(7)), {value: 7})
        for name in plain:
            self.assertEqual(str(getattr(errors, name)("a text")), "a text")

    def test_nothing_hangs_on_a_clock_chance_or_files(self):
        folder = os.path.dirname(errors.__file__)
        for name in os.listdir(folder):
            if name.endswith(".py"):
                with open(os.path.join(folder, name), encoding="utf-8") as file:
                    tree = ast.parse(file.read())
                for node in ast.walk(tree):
                    self.assertNotIsInstance(node, ast.Import)
                    if isinstance(node, ast.ImportFrom):
                        self.assertTrue(node.module.startswith("bellplaces."))


class TestWhoLacks(unittest.TestCase):
    def test_a_each_person_by_all_worlds(self):
        chance = random.Random(101)
        seen = {}
        for turn in range(500):
            plan, rows, b = some_muster(chance)
            if crossing(plan, rows, b) is not None:
                with self.assertRaises(Crossed) as caught:
                    told(plan, rows, b)
                self.assertEqual(caught.exception.why, crossing(plan, rows, b))
                continue
            case = case_of(plan, rows, b)
            worlds = list(all_worlds(case))
            if not worlds:
                with self.assertRaises(NoWorld) as caught:
                    told(plan, rows, b)
                self.assertTrue(shows_none(case, caught.exception.paper))
                seen["none"] = seen.get("none", 0) + 1
                continue
            people = called(plan, dict(bells(rows))[b])
            self.assertEqual(tuple(p for p, word in told(plan, rows, b)), people)
            for i, (p, word) in enumerate(told(plan, rows, b)):
                found = {world[i] is None for world in worlds}
                self.assertEqual(word, "open" if len(found) == 2 else "lacks" if True in found else "there")
                self.check_shown(case, i, word)
                seen[word] = seen.get(word, 0) + 1
            self.assertEqual(lacking(plan, rows, b), tuple(p for p, word in told(plan, rows, b) if word == "lacks"))
        self.assertGreater(min(seen[word] for word in ("none", "there", "lacks", "open")), 20)

    def check_shown(self, case, i, word):
        found = verdict(case, i)
        self.assertEqual(found[0], word)
        self.assertTrue(shows_verdict(case, i, found))
        if word == "lacks":
            self.assertTrue(shows_none(must(case, i), found[1]))
        elif word == "there":
            self.assertTrue(shows_none(away(case, i), found[1]))
        else:
            self.assertTrue(shows_world(case, found[1]) and shows_world(case, found[2]))
            self.assertTrue(found[1][i] is not None and found[2][i] is None)

    def test_b_a_count_more_takes_nothing_back(self):
        chance = random.Random(102)
        tried = 0
        for case in small_cases(chance, 120):
            ups, counts, people = case
            worlds = list(all_worlds(case))
            if not worlds:
                continue
            words = [verdict(case, i)[0] for i in range(len(people))]
            for v in range(len(ups)):
                numbers = {number_at(ups, world, v) for world in worlds}
                self.assertEqual(numbers, set(range(min(numbers), max(numbers) + 1)))
                self.assertEqual(span(case, v), (min(numbers), max(numbers)))
                for n in numbers if counts[v] is None else ():
                    self.assertTrue(shows_world(counted(case, v, n), world_with(case, v, n)))
                    for i, word in enumerate(words):
                        if word != "open":
                            self.assertEqual(verdict(counted(case, v, n), i)[0], word)
                            tried += 1
        self.assertGreater(tried, 100)

    def test_c_who_is_named_twice(self):
        chance = random.Random(103)
        found = 0
        for turn in range(100):
            plan, b = some_plan(chance, 3, chance.randint(2, 5), 1), 1
            rows = tuple(sorted({(0, "bell", 1, 0)} | set(some_rows(chance, plan, 8, bells=1, moments=3, names=3))))
            force = [row for counts in standing(plan, rows, b) for row in counts]
            wanted = sorted((p, one, other) for one in force for other in force for p in one[5]
                            if p in other[5] and one[3] < other[3] and apart(plan[1], one[3], other[3]))
            self.assertEqual(twice(plan, rows, b), tuple(wanted))
            found += len(wanted)
        self.assertGreater(found, 20)

    def test_c_in_any_order_late_or_twice(self):
        chance = random.Random(104)
        for turn in range(60):
            plan, rows, b = some_muster(chance)
            house = some_house(chance, 4)
            all_rows = tuple(sorted(set(rows) | {row for row in some_log(chance, house, 6) if is_row(plan, house, row)}))
            whole = Book(plan, house)
            for row in all_rows:
                whole.add(row)
            self.assertEqual(whole.rows(), all_rows)
            said = list(all_rows) * 2
            chance.shuffle(said)
            one, other = Book(plan, house), Book(plan, house)
            for at, row in enumerate(said):
                (one if at % 2 else other).add(row)
            one.join(other)
            self.assertEqual(one.rows(), all_rows)

    def test_d_a_count_stands_for_the_second_bell(self):
        chance = random.Random(105)
        seen = set()
        for turn in range(200):
            plan = some_plan(chance, 4, chance.randint(2, 4), 3)
            ups = plan[1]
            v, one, other = chance.randrange(len(ups)), chance.randrange(3), chance.randrange(3)
            first = ((1, "bell", 1, one), (2, "count", 1, v, 1, ()), (3, "bell", 2, other))
            same = alike(plan, one, other, v)
            self.assertEqual(same, all(plan[2][one][u] == plan[2][other][u] for u in beneath(ups, v)))
            self.assertEqual(standing(plan, first, 2)[v], (first[1],) if same else ())
            self.assertEqual(standing(plan, first, 1)[v], (first[1],))
            u = chance.randrange(len(ups))
            later = first + ((4, "count", 2, u, 2, ()),)
            gone = u in beneath(ups, v)
            wanted = (later[3],) if u == v else (first[1],) if same and not gone else ()
            self.assertEqual(standing(plan, later, 2)[v], wanted)
            seen.add((same, gone, u == v))
        self.assertEqual(len(seen), 6)


class TestPosts(unittest.TestCase):
    def test_e_as_many_as_can_be_the_earlier_ones_first(self):
        chance = random.Random(106)
        bare = 0
        for turn in range(200):
            posts = tuple(tuple(chance.sample(range(5), chance.randint(1, 3))) for q in range(chance.randint(1, 4)))
            there = tuple(p for p in range(5) if chance.random() < 0.5)
            ways = [way for way in itertools.product(*(tuple(p for p in post if p in there) + (None,) for post in posts))
                    if len({p for p in way if p is not None}) == len([p for p in way if p is not None])]
            most = max(len([p for p in way if p is not None]) for way in ways)
            fullest = [way for way in ways if len([p for p in way if p is not None]) == most]
            # Bare later is better than bare earlier; then the earliest of each row.
            best = min(fullest, key=lambda way: ([p is None for p in way],
                                                 [9 if p is None else post.index(p) for p, post in zip(way, posts)]))
            self.assertEqual(manned(posts, there), best)
            for q, p in enumerate(best):
                if p is None:
                    self.assertTrue(shows_bare(posts, there, best, q, bare_paper(posts, there, q)))
                    bare += 1
        self.assertGreater(bare, 50)


class TestRooms(unittest.TestCase):
    def test_f_each_room_by_a_trace_all_others_by_bounds(self):
        chance = random.Random(107)
        for turn in range(150):
            house = some_house(chance, chance.randint(1, 7))
            rows = some_log(chance, house, chance.randint(0, 12))
            for p in (0, 1):
                rooms = rooms_for(house, rows, p)
                for room in rooms:
                    found = trace(house, rows, p, room)
                    self.assertTrue(shows_trace(house, rows, p, found))
                    self.assertEqual(found[-1], room)
                found = bounds(house, rows, p)
                self.assertTrue(shows_bounds(house, rows, p, found))
                self.assertEqual(found[-1], rooms)


class TestSweeps(unittest.TestCase):
    def test_g_as_many_as_high(self):
        chance = random.Random(108)
        plain = 0
        for turn in range(150):
            house = some_house(chance, chance.randint(1, 6))
            doors = open_doors(some_log(chance, house, 14))
            if any(kind_of(house, doors, part[0]) == "other" for part in parts(house, doors)):
                with self.assertRaises(NoKind):
                    sweep(house, doors)
                continue
            many, moves, high = fewest(house, doors), sweep(house, doors), tower(house, doors)
            self.assertEqual(swept(house, doors, moves), ((), many))
            self.assertTrue(shows_sweep(house, doors, many, moves))
            self.assertTrue(shows_tower(house, doors, many, high))
            self.assertFalse(can_sweep(house, doors, many - 1))
            plain += 1
        self.assertGreater(plain, 100)


class TestTexts(unittest.TestCase):
    def test_h_what_is_written_is_read_as_it_was(self):
        chance = random.Random(109)
        for turn in range(60):
            plan, rows, b = some_muster(chance)
            house = some_house(chance, chance.randint(1, 9))
            self.assertEqual(read_plan(show_plan(plan)), plan)
            self.assertEqual(read_house(show_house(house)), house)
            for row in rows + log(some_log(chance, house, 9)):
                self.assertEqual(read_row(show_row(row)), row)

    def test_h_the_desk_answers_as_all_these_tell(self):
        chance = random.Random(110)
        for turn in range(60):
            plan, rows, b = some_muster(chance, names=1)
            house = some_house(chance, chance.randint(1, 6))
            rows = tuple(sorted(set(rows) | {row for row in some_log(chance, house, 5) if is_row(plan, house, row)}))
            desk = Desk(show_plan(plan), show_house(house))
            for row in rows:
                self.assertEqual(desk.say(show_row(row)), "new")
            self.assertEqual(desk.say("rows"), str(len(rows)))
            self.assertEqual(desk.say("bells"), " ".join("%d:%d" % pair for pair in bells(rows)))
            self.assertEqual(desk.say("where 0"), " ".join(map(str, rooms_for(house, rows, 0))) or "-")
            try:
                wanted = ", ".join("%d %s" % pair for pair in told(plan, rows, b)) or "-"
            except BellError as error:
                with self.assertRaises(type(error)) as caught:
                    desk.say("told %d" % b)
                self.assertEqual(vars(caught.exception), vars(error))
            else:
                self.assertEqual(desk.say("told %d" % b), wanted)


class TestPointTwo(unittest.TestCase):
    def calls(self, chance):
        """Functions with what is handed in, over all of the program."""
        plan, rows, b = some_muster(chance)
        house = some_house(chance, chance.randint(1, 6))
        rows = tuple(sorted(set(rows) | {row for row in some_log(chance, house, 5) if is_row(plan, house, row)}))
        doors, watch = open_doors(rows), dict(bells(rows))[b]
        yield from ((is_plan, plan), (is_house, house), (bells, rows), (log, rows), (open_doors, rows), (parts, house, doors),
                    (called, plan, watch), (show_plan, plan), (show_house, house), (read_plan, show_plan(plan)),
                    (read_house, show_house(house)), (fewest, house, doors), (sweep, house, doors), (tower, house, doors),
                    (kind_of, house, doors, 0), (rooms_for, house, rows, 0), (bounds, house, rows, 0),
                    (trace, house, rows, 0, 0), (swept, house, doors, (("post", 0), ("take", 0))))
        yield from ((function, plan, rows, b) for function in (standing, twice, crossing, case_of, told, lacking))
        yield from ((is_row, plan, house, row) for row in rows)
        yield from ((show_row, row) for row in rows)
        yield manned, tuple(post for place in plan[2][watch] for post in place), tuple(range(0, plan[0], 2))
        for case in small_cases(chance, 2):
            yield fit, case
            yield span, case, 0
            yield from ((function, case, i) for function in (must, away, verdict) for i in range(len(case[2])))

    def ask(self, function, *handed):
        try:
            return function(*handed)
        except BellError as error:
            return type(error).__name__, tuple(sorted(vars(error).items()))

    def test_kinds_nothing_changed_and_the_same_again(self):
        chance = random.Random(111)
        for turn in range(40):
            for function, *handed in self.calls(chance):
                with Unchanged(self, *handed):
                    first = self.ask(function, *handed)
                self.assertTrue(is_told(first), (function, handed, first))
                self.assertEqual(repr(self.ask(function, *handed)), repr(first))

    def test_truths_are_told_where_it_is_asked_whether(self):
        chance = random.Random(112)
        for turn in range(20):
            plan, rows, b = some_muster(chance)
            house, doors = (2, ((0, 1),)), (0,)
            for told_now in (is_plan(plan), is_house(house), apart(plan[1], 0, 0), alike(plan, 0, 0, 0),
                             is_row(plan, house, rows[0]), shows_sweep(house, doors, 1, ()), shows_tower(house, doors, 1, 0),
                             shows_trace(house, rows, 0, 0), shows_bounds(house, rows, 0, 0)):
                self.assertIs(type(told_now), bool)


if __name__ == "__main__":
    unittest.main()
