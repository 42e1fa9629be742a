"""Reading: what is shown is read as it was, and all other texts are refused by the row at which that shows."""

import random
import re
import unittest

from bellplaces.errors import BellError, NoText
from bellplaces.houses import is_house
from bellplaces.plans import is_plan
from bellplaces.reading import read_house, read_plan, read_row
from bellplaces.showing import show_house, show_plan, show_row
from tests.greatest import GREAT_HOUSE, GREAT_PLAN
from tests.things import Unchanged, all_things, is_told
from tests.trials import some_house, some_log, some_plan, some_rows

FAR = 10 ** 12 - 1
LEAST_PLAN = (1, (None,), (((),),))
PLAN = (12, (None, 0, 0), (((), (), ()), ((), ((11, 10), (3,)), ((0, 1, 2),)), (((0,),), (), ((1,), (1,)))))
HOUSE = (12, ((0, 1), (0, 11), (2, 3), (10, 11)))
ROWS = ((0, "bell", 1, 0), (5, "count", 2, 3, 4, (0, 7)), (5, "count", 2, 3, 0, ()), (12, "look", 10), (7, "open", 59),
        (7, "seen", 29, 44), (7, "shut", 0), (FAR, "bell", FAR, 5), (FAR, "count", FAR, 19, FAR, (0, 29)),
        (5, "count", 2, 3, 30, tuple(range(30))))

NUMBER = r"(?:0|[1-9][0-9]{0,11})"
PLAN_FORMS = re.compile("plan N|place N|place -|watch|post N N( N)*".replace("N", NUMBER))
HOUSE_FORMS = re.compile("house N|door N N".replace("N", NUMBER))
ROW_FORMS = re.compile("N bell N N|N count N N N( N)*|N look N|N open N|N seen N N|N shut N".replace("N", NUMBER))


def plain_plan(text):
    """By the words: the plan that is written, or the number of the row."""
    lines = text.split("\n")
    for at, line in enumerate(lines):
        words, ahead = line.split(" "), lines[:at]
        watches = [k for k in range(at) if lines[k] == "watch"]
        if not PLAN_FORMS.fullmatch(line) or (words[0] == "plan") != (at == 0):
            return at
        if words[0] == "place" and watches or words[0] == "post" and not watches:
            return at
        if words[0] == "post" and any(int(other.split(" ")[1]) > int(words[1]) for other in ahead[watches[-1] + 1:]):
            return at
    ups = [None if line == "place -" else int(line[6:]) for line in lines if line.startswith("place")]
    watches = []
    for line in lines:
        words = line.split(" ")
        if words[0] == "watch":
            watches.append({})
        elif words[0] == "post":
            watches[-1].setdefault(int(words[1]), []).append(tuple(map(int, words[2:])))
    if any(v >= len(ups) for watch in watches for v in watch):
        return len(lines)
    plan = (int(lines[0][5:]), tuple(ups),
            tuple(tuple(tuple(watch.get(v, ())) for v in range(len(ups))) for watch in watches))
    return plan if is_plan(plan) else len(lines)


def plain_house(text):
    """By the words: the house that is written, or the number of the row."""
    lines = text.split("\n")
    for at, line in enumerate(lines):
        if not HOUSE_FORMS.fullmatch(line) or line.startswith("house") != (at == 0):
            return at
    house = (int(lines[0][6:]), tuple(tuple(map(int, line.split(" ")[1:])) for line in lines[1:]))
    return house if is_house(house) else len(lines)


def plain_row(text):
    """By the words: the tuple that is written, or 0."""
    if not ROW_FORMS.fullmatch(text):
        return 0
    moment, word, *rest = text.split(" ")
    numbers = tuple(map(int, rest))
    return (int(moment), word) + (numbers[:3] + (numbers[3:],) if word == "count" else numbers)


def changed(items, others):
    """The items with one left out, twice, exchanged, put in, or put in the place of another."""
    for at in range(len(items)):
        yield items[:at] + items[at + 1:]
        yield items[:at] + items[at:at + 1] * 2 + items[at + 1:]
        for other in {0, at // 2, at - 1} - {at, -1}:
            yield items[:other] + items[at:at + 1] + items[other + 1:at] + items[other:other + 1] + items[at + 1:]
        for other in others:
            yield items[:at] + [other] + items[at + 1:]
    for at in range(len(items) + 1):
        for other in others:
            yield items[:at] + [other] + items[at:]


LINES = ["", " ", "plan 3", "place -", "place 0", "place 1", "place 99", "watch", "watch 1", "post 0 0", "post 1 1 2",
         "post 2 1", "post 0", "post", "post 7 1", "house 3", "house 12", "door 0 1", "door 1 0", "door 1 2", "door 3 3",
         "0 bell 1 0", "bell 1 0", "plan -", "door -", "post - 1", "post 0 -", "Watch", "watch ", " watch", "plan", "house"]
WORDS = ["", "-", "0", "1", "7", "99", "00", "01", "+1", "-1", "1.", "1_0", "x", "a1", "0x1", "place", "post", "plan",
         "watch", "door", "house", "bell", "count", "look", "open", "seen", "shut", "Look", "1" * 12, "1" * 13, "0" * 5000,
         "9" * 5000, "/", "\t", "\u0661", "\u00b2"]
SIGNS = [" ", "0", "1", "9", "-", "+", "_", ".", "x", "\n", "\t", "\r", "~", "e"]


def changed_texts(text):
    """The text with a row, a word or a sign otherwise."""
    lines = text.split("\n")
    for rows in changed(lines, LINES):
        yield "\n".join(rows)
    for at, line in enumerate(lines):
        for words in changed(line.split(" "), WORDS):
            yield "\n".join(lines[:at] + [" ".join(words)] + lines[at + 1:])
    for signs in changed(list(text), SIGNS):
        yield "".join(signs)


class Reading(unittest.TestCase):
    def read(self, read, text, wanted):
        with Unchanged(self, text):
            told = read(text)
        self.assertEqual(told, wanted)
        self.assertTrue(is_told(told))
        self.assertEqual(repr(told), repr(wanted))
        self.assertEqual(read(text), told)

    def refused(self, read, row, thing):
        with self.assertRaises(NoText) as caught:
            read(thing)
        self.assertIs(type(caught.exception.row), int)
        self.assertEqual(caught.exception.row, row, repr(thing)[:300])
        self.assertIsInstance(caught.exception, BellError)

    def check(self, read, text, wanted):
        """By what the words tell: a tuple, or the row's number."""
        if type(wanted) is int:
            self.refused(read, wanted, text)
        else:
            self.read(read, text, wanted)

    def things_that_are_no_texts(self, read):
        for thing in all_things():
            if type(thing) is not str:
                self.refused(read, 0, thing)
        for thing in (LEAST_PLAN, (1, ()), (0, "bell", 1, 0), b"plan 1\nplace -\nwatch", b"house 1", b"0 look 0",
                      ["plan 1", "place -", "watch"], ["house 1"], ("house 1",), ["0 look 0"], {"house 1": 1}):
            self.refused(read, 0, thing)


class TestReadPlan(Reading):
    def refused_rows(self, row, *rows):
        self.refused(read_plan, row, "\n".join(rows))
        self.assertEqual(plain_plan("\n".join(rows)), row)

    def test_what_is_shown_is_read_as_it_was(self):
        for plan in (LEAST_PLAN, PLAN, GREAT_PLAN):
            self.read(read_plan, show_plan(plan), plan)
        chance = random.Random(82)
        for turn in range(100):
            plan = some_plan(chance, chance.randint(1, 30), chance.randint(1, 20), chance.randint(1, 6))
            self.read(read_plan, show_plan(plan), plan)

    def test_what_is_read_is_shown_as_it_was(self):
        text = "plan 12\nplace -\nplace 0\nwatch\nwatch\npost 0 11 10\npost 1 0\npost 1 1"
        self.read(read_plan, text, (12, (None, 0), (((), ()), (((11, 10),), ((0,), (1,))))))
        self.assertEqual(show_plan(read_plan(text)), text)

    def test_things_that_are_no_texts(self):
        self.things_that_are_no_texts(read_plan)

    def test_with_a_row_a_word_or_a_sign_otherwise(self):
        found = set()
        for plan in (LEAST_PLAN, PLAN):
            for text in changed_texts(show_plan(plan)):
                wanted = plain_plan(text)
                self.check(read_plan, text, wanted)
                found.add(type(wanted) is int and (wanted, wanted == len(text.split("\n"))))
        self.assertLessEqual({False, (0, False), (1, False), (5, False), (12, False), (12, True), (13, True), (14, True)}, found)

    def test_empty_rows(self):
        self.refused_rows(0, "")
        self.refused_rows(0, "", "plan 1", "place -", "watch")
        self.refused_rows(1, "plan 1", "", "place -", "watch")
        self.refused_rows(3, "plan 1", "place -", "watch", "")
        self.refused_rows(3, "plan 1", "place -", "watch", "", "")

    def test_blanks(self):
        for line in (" plan 1", "plan 1 ", "plan  1", "plan\t1", "plan", "plan ", "plan 1 2"):
            self.refused_rows(0, line, "place -", "watch")
        for line in (" place -", "place - ", "place  -", "place", "place ", "place - -", "place - 0", "place 0 0", "place0"):
            self.refused_rows(1, "plan 1", line, "watch")
        for line in (" watch", "watch ", "watch 0", "Watch", "watches", "watch -"):
            self.refused_rows(2, "plan 1", "place -", line)
        for line in ("post", "post 0", "post 0 ", "post 0  0", " post 0 0", "post 0 0 ", "post - 0", "post 0 -", "post 0 x"):
            self.refused_rows(3, "plan 1", "place -", "watch", line)

    def test_numbers(self):
        self.refused_rows(3, "plan 999999999999", "place -", "watch")
        self.refused_rows(3, "plan 0", "place -", "watch")
        for word in ("1000000000000", "1" * 5000, "0" * 5000, "00", "01", "+1", "-1", "1.0", "1e0", "1_0", "x", "0x1", "-",
                     "\u0661", "\u00b9"):
            self.refused_rows(0, "plan " + word, "place -", "watch")
            if word != "-":
                self.refused_rows(2, "plan 1", "place -", "place " + word, "watch")
            self.refused_rows(3, "plan 1", "place -", "watch", "post " + word + " 0")
            self.refused_rows(3, "plan 1", "place -", "watch", "post 0 " + word)
            self.refused_rows(3, "plan 1", "place -", "watch", "post 0 0 " + word)
        self.refused_rows(4, "plan 1", "place -", "watch", "post 999999999999 0")
        self.refused_rows(4, "plan 1", "place -", "watch", "post 0 999999999999")
        self.refused_rows(4, "plan 1", "place -", "place 999999999999", "watch")

    def test_rows_where_they_cant_stand(self):
        self.refused_rows(0, "place -", "plan 1", "watch")
        self.refused_rows(0, "watch")
        self.refused_rows(0, "post 0 0")
        self.refused_rows(0, "house 1")
        self.refused_rows(1, "plan 1", "plan 1", "place -", "watch")
        self.refused_rows(3, "plan 1", "place -", "watch", "plan 1")
        self.refused_rows(4, "plan 1", "place -", "watch", "post 0 0", "plan 1")
        self.refused_rows(3, "plan 1", "place -", "watch", "place 0")
        self.refused_rows(4, "plan 1", "place -", "watch", "post 0 0", "place 0")
        self.refused_rows(1, "plan 1", "post 0 0", "place -", "watch")
        self.refused_rows(2, "plan 1", "place -", "post 0 0", "watch")
        self.refused_rows(3, "plan 1", "place -", "watch", "door 0 1")
        self.refused_rows(3, "plan 1", "place -", "watch", "0 look 0")

    def test_posts_behind_one_of_a_greater_place(self):
        start = ("plan 2", "place -", "place 0", "watch")
        self.refused_rows(5, *start, "post 1 0", "post 0 1")
        self.refused_rows(6, *start, "post 0 0", "post 1 0", "post 0 1")
        self.refused_rows(7, *start, "watch", "post 1 0", "post 1 1", "post 0 1", "post 1 1")
        # Of another watch it may be.
        self.read(read_plan, "\n".join(start + ("post 1 0", "watch", "post 0 1")),
                  (2, (None, 0), (((), ((0,),)), (((1,),), ()))))
        # A place that there isn't is greater, too.
        self.refused_rows(5, *start, "post 9 0", "post 1 1")

    def test_the_first_of_several_rows(self):
        self.refused_rows(2, "plan 1", "place 0", "what", "place -", "watch", "post 0")
        self.refused_rows(4, "plan 99", "place 7", "watch", "post 9 0 0", "post 0 0", "x")
        self.refused_rows(0, "x", "y")

    def test_rows_that_make_no_plan(self):
        self.refused_rows(1, "plan 1")
        self.refused_rows(2, "plan 1", "place -")
        self.refused_rows(2, "plan 1", "watch")
        self.refused_rows(3, "plan 1", "watch", "post 0 0")
        self.refused_rows(3, "plan 1", "place 0", "watch")
        self.refused_rows(4, "plan 1", "place -", "place -", "watch")
        self.refused_rows(4, "plan 1", "place -", "place 1", "watch")
        self.refused_rows(5, "plan 1", "place -", "place 0", "place 2", "watch")
        self.refused_rows(4, "plan 1", "place -", "watch", "post 1 0")
        self.refused_rows(4, "plan 1", "place -", "watch", "post 0 1")
        self.refused_rows(4, "plan 3", "place -", "watch", "post 0 1 1")
        self.refused_rows(4, "plan 3", "place -", "watch", "post 0 1 2 0 1")

    def test_one_beyond_each_bound(self):
        def lines(people=30, places=20, watches=6, posts=6, of_post=4):
            post = "post 0 " + " ".join(str(p) for p in range(of_post))
            return (["plan %d" % people, "place -"] + ["place 0"] * (places - 1)
                    + (["watch"] + [post] * posts) * watches)

        self.assertEqual(read_plan("\n".join(lines())), plain_plan("\n".join(lines())))
        self.assertTrue(is_plan(read_plan("\n".join(lines()))))
        for beyond in ({"people": 31}, {"places": 21}, {"watches": 7}, {"posts": 7}, {"of_post": 5}):
            rows = lines(**beyond)
            self.refused_rows(len(rows), *rows)

    def test_many_places_and_watches(self):
        rows = ["plan 30", "place -"] + ["place 0"] * 1200 + ["watch"] * 1600
        self.assertLessEqual(len("\n".join(rows)), 20000)
        self.refused_rows(len(rows), *rows)


class TestReadHouse(Reading):
    def refused_rows(self, row, *rows):
        self.refused(read_house, row, "\n".join(rows))
        self.assertEqual(plain_house("\n".join(rows)), row)

    def test_what_is_shown_is_read_as_it_was(self):
        for house in ((1, ()), (45, ()), (2, ((0, 1),)), HOUSE, GREAT_HOUSE):
            self.read(read_house, show_house(house), house)
        chance = random.Random(83)
        for turn in range(100):
            house = some_house(chance, chance.randint(1, 45))
            self.read(read_house, show_house(house), house)

    def test_things_that_are_no_texts(self):
        self.things_that_are_no_texts(read_house)

    def test_with_a_row_a_word_or_a_sign_otherwise(self):
        found = set()
        for house in ((1, ()), HOUSE):
            for text in changed_texts(show_house(house)):
                wanted = plain_house(text)
                self.check(read_house, text, wanted)
                found.add(type(wanted) is int and (wanted, wanted == len(text.split("\n"))))
        self.assertLessEqual({False, (0, False), (1, False), (4, False), (5, False), (5, True), (6, True)}, found)

    def test_forms(self):
        for line in ("", " house 3", "house 3 ", "house  3", "house", "house 3 3", "house -", "House 3", "house 03", "plan 3",
                     "door 0 1", "house 1000000000000", "house +3", "house " + "3" * 5000):
            self.refused_rows(0, line, "door 0 1")
        for line in ("", " door 0 1", "door 0 1 ", "door 0  1", "door 0", "door", "door 0 1 2", "door 0 -", "door 0 01",
                     "doors 0 1", "house 3", "door 0 1000000000000", "door 0 " + "1" * 5000, "watch", "0 look 0"):
            self.refused_rows(1, "house 3", line, "door 0 2")
            self.refused_rows(2, "house 3", "door 0 1", line)
        self.refused_rows(1, "house 3", "")

    def test_rows_that_make_no_house(self):
        self.refused_rows(1, "house 0")
        self.refused_rows(1, "house 46")
        self.refused_rows(1, "house 999999999999")
        self.refused_rows(2, "house 3", "door 1 0")
        self.refused_rows(2, "house 3", "door 1 1")
        self.refused_rows(2, "house 3", "door 0 3")
        self.refused_rows(3, "house 3", "door 0 1", "door 0 1")
        self.refused_rows(3, "house 3", "door 1 2", "door 0 1")
        self.refused_rows(3, "house 3", "door 0 2", "door 0 1")
        doors = ["door %d %d" % (a, b) for a in range(10) for b in range(a + 1, 45)]
        self.assertEqual(len(read_house("\n".join(["house 45"] + doors[:60]))[1]), 60)
        self.refused_rows(62, "house 45", *doors[:61])

    def test_the_first_of_several_rows(self):
        self.refused_rows(3, "house 99", "door 1 0", "door 7 7", "door", "door 0")


class TestReadRow(Reading):
    def test_what_is_shown_is_read_as_it_was(self):
        for row in ROWS:
            self.read(read_row, show_row(row), row)
        chance = random.Random(84)
        plan, house = some_plan(chance, 30, 20, 6), some_house(chance, 45)
        for row in some_rows(chance, plan, 100) + some_log(chance, house, 100):
            self.read(read_row, show_row(row), row)

    def test_rows_of_no_plan(self):
        self.read(read_row, "0 bell 0 999999999999", (0, "bell", 0, 999999999999))
        self.read(read_row, "1 count 0 77 1 5 4 5", (1, "count", 0, 77, 1, (5, 4, 5)))
        self.read(read_row, "1 count 0 0 0 1", (1, "count", 0, 0, 0, (1,)))
        self.read(read_row, "1 look 999999999999", (1, "look", 999999999999))
        self.read(read_row, "1 seen 31 46", (1, "seen", 31, 46))
        self.read(read_row, "1 open 61", (1, "open", 61))
        self.read(read_row, "1 shut 61", (1, "shut", 61))
        many = tuple(range(100, 300))
        self.read(read_row, "1 count 1 1 1 " + " ".join(map(str, many)), (1, "count", 1, 1, 1, many))

    def test_things_that_are_no_texts(self):
        self.things_that_are_no_texts(read_row)

    def test_with_a_word_or_a_sign_otherwise(self):
        found = set()
        for row in ROWS[:7]:
            for text in changed_texts(show_row(row)):
                wanted = plain_row(text)
                self.check(read_row, text, wanted)
                found.add(wanted and wanted[1])
        self.assertEqual(found, {0, "bell", "count", "look", "open", "seen", "shut"})

    def test_other_forms(self):
        for text in ("", " ", "0", "0 ", "bell", "0 bell", "0 bell 1", "0 bell 1 0 0", "0 count 1 2", "0 look", "0 look 1 2",
                     "0 open", "0 open 1 2", "0 seen 1", "0 seen 1 2 3", "0 shut", "0 shut 1 2", "0 Look 1", "look 1",
                     " 0 look 1", "0 look 1 ", "0  look 1", "0 look  1", "0 look 1\n", "\n0 look 1", "0 look\n1",
                     "0 look 1\n0 look 2", "- look 1", "0 look -", "00 look 1", "0 look 01", "-1 look 1", "0 look +1",
                     "0 plan 1", "0 place 1", "0 watch", "0 post 1 1", "0 house 1", "0 door 1 2", "plan 1", "house 1",
                     "1" * 13 + " look 1", "0 look " + "1" * 13, "0 look " + "1" * 5000, "1" * 19000 + " look 1",
                     "0 count 1 2 3 " + "4" * 5000, "0 " * 9999, "0 look \u0661", "bells", "0 bells 1 1", "1 2 look 0"):
            self.refused(read_row, 0, text)
            self.assertEqual(plain_row(text), 0)


if __name__ == "__main__":
    unittest.main()
