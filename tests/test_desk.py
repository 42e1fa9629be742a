"""The desk: rows and questions line by line, its answers, its refusals and their order."""

import random
import re
import unittest

from bellplaces.books import Book
from bellplaces.desk import Desk
from bellplaces.errors import (BellError, Crossed, NoBell, NoKind, NoLine, NoPerson, NoPlace, NoRow, NoText, NoWorld)
from bellplaces.fewest import fewest
from bellplaces.force import bells, case_of, crossing, twice
from bellplaces.logs import open_doors
from bellplaces.musters import told
from bellplaces.plans import called
from bellplaces.rooms import rooms_for
from bellplaces.rows import is_row
from bellplaces.showing import show_house, show_plan, show_row
from bellplaces.verdicts import shows_verdict, span
from tests.greatest import GREAT_HOUSE, GREAT_PLAN
from tests.things import Unchanged, all_things
from tests.trials import some_house, some_log, some_plan, some_rows

# 0 - (1 - 3, 2). The first watch calls 0 to 4, the second one not 4, the third one nobody; 5 is called by none.
UPS = (None, 0, 0, 1)
DAY = (((0, 1),), ((1, 2),), ((3, 4),), ((2,),))
NIGHT = (((0, 1),), ((1, 2),), ((3, 0),), ((2,),))
PLAN = (6, UPS, (DAY, NIGHT, ((), (), (), ())))
# A ring 0 1 2, room 3 hung on it, and room 4 without a door; doors 0 to 3.
HOUSE = (5, ((0, 1), (0, 2), (1, 2), (2, 3)))
PLAN_TEXT = """plan 6
place -
place 0
place 0
place 1
watch
post 0 0 1
post 1 1 2
post 2 3 4
post 3 2
watch
post 0 0 1
post 1 1 2
post 2 3 0
post 3 2
watch"""
HOUSE_TEXT = "house 5\ndoor 0 1\ndoor 0 2\ndoor 1 2\ndoor 2 3"
QUESTIONS = ("bells", "told 1", "told 2", "told 3", "why 1 0", "why 1 2", "why 2 3", "twice 1", "twice 2", "crossed 1",
             "crossed 2", "span 1 0", "span 1 3", "span 2 1", "where 0", "where 5", "search", "rows")

NUMBER = r"(?:0|[1-9][0-9]{0,11})"
ROW = re.compile("N bell N N|N count N N N( N)*|N look N|N open N|N seen N N|N shut N".replace("N", NUMBER))
ASKED = re.compile("bells|told N|why N N|twice N|crossed N|span N N|where N|search|rows".replace("N", NUMBER))


def row_by_words(line):
    """The row that the line writes."""
    moment, word, *rest = line.split(" ")
    numbers = tuple(map(int, rest))
    return (int(moment), word) + (numbers[:3] + (numbers[3:],) if word == "count" else numbers)


def numbers_shown(numbers):
    return " ".join("-" if number is None else str(number) for number in numbers)


def world_read(words):
    return tuple(None if word == "-" else int(word) for word in words)


def verdict_read(answer):
    """The verdict that an answer to why tells."""
    words = answer.split(" ")
    if words[0] == "open":
        at = words.index("/")
        return "open", world_read(words[1:at]), world_read(words[at + 1:])
    return words[0], (words[1], tuple(map(int, words[2:])))


def refusal_by_words(plan, house, rows, line):
    """The first refusal that is due for a line, with its value, or None; by the document's order."""
    if type(line) is not str or not (ROW.fullmatch(line) or ASKED.fullmatch(line)):
        return NoLine, None
    if ROW.fullmatch(line):
        return None if is_row(plan, house, row_by_words(line)) else (NoRow, None)
    word, *numbers = line.split(" ")
    numbers = list(map(int, numbers))
    rung = dict(bells(rows))
    if word in ("told", "why", "twice", "crossed", "span") and numbers[0] not in rung:
        return NoBell, None
    if word == "why" and numbers[1] not in called(plan, rung[numbers[0]]) or word == "where" and numbers[0] >= plan[0]:
        return NoPerson, None
    if word == "span" and numbers[1] >= len(plan[1]):
        return NoPlace, None
    if word in ("told", "why", "span"):
        if crossing(plan, rows, numbers[0]) is not None:
            return Crossed, crossing(plan, rows, numbers[0])
        try:
            span(case_of(plan, rows, numbers[0]), 0)
        except NoWorld as error:
            return NoWorld, error.paper
    if word == "search":
        try:
            fewest(house, open_doors(rows))
        except NoKind as error:
            return NoKind, error.room
    return None


def crossing_shown(why):
    if why is None:
        return "no"
    if why[0] == "unlike":
        return "unlike %d" % why[1][3]
    if why[0] == "twice":
        return "twice %d %d %d" % (why[1], why[2][3], why[3][3])
    return "stray %d %d" % (why[1], why[2][3])


def answer_by_functions(plan, house, rows, line):
    """What is answered to a question but why, by what the functions tell of the rows."""
    word, *numbers = line.split(" ")
    numbers = list(map(int, numbers))
    if word == "bells":
        return " ".join("%d:%d" % pair for pair in bells(rows)) or "-"
    if word == "told":
        return ", ".join("%d %s" % pair for pair in told(plan, rows, numbers[0])) or "-"
    if word == "twice":
        return ", ".join("%d %d %d" % (p, a[3], b[3]) for p, a, b in twice(plan, rows, numbers[0])) or "-"
    if word == "crossed":
        return crossing_shown(crossing(plan, rows, numbers[0]))
    if word == "span":
        return "%d %d" % span(case_of(plan, rows, numbers[0]), numbers[1])
    if word == "where":
        return numbers_shown(rooms_for(house, rows, numbers[0])) or "-"
    if word == "search":
        return "%d" % fewest(house, open_doors(rows))
    return "%d" % len(rows)


class Desks(unittest.TestCase):
    def desk(self, *lines):
        """A desk to which these rows were said, all of them new."""
        desk = Desk(PLAN_TEXT, HOUSE_TEXT)
        for line in lines:
            self.assertEqual(desk.say(line), "new", line)
        return desk

    def answers(self, desk, line, wanted):
        with Unchanged(self, line):
            answer = desk.say(line)
        self.assertIs(type(answer), str)
        self.assertEqual(answer, wanted, line)
        self.assertEqual(desk.say(line), wanted, line)

    def state(self, desk):
        """How the desk answers all questions."""
        found = []
        for question in QUESTIONS:
            try:
                found.append(desk.say(question))
            except BellError as error:
                found.append((type(error), sorted(vars(error).items())))
        return found

    def refused(self, kind, desk, line):
        before = self.state(desk)
        with self.assertRaises(BellError) as caught:
            desk.say(line)
        self.assertIs(type(caught.exception), kind, repr(line)[:200])
        self.assertEqual(self.state(desk), before)
        return caught.exception


class TestTexts(Desks):
    def refused_texts(self, row, plan_text, house_text):
        with self.assertRaises(NoText) as caught:
            Desk(plan_text, house_text)
        self.assertEqual(caught.exception.row, row)
        self.assertIs(type(caught.exception.row), int)

    def test_the_texts_here_are_those_of_the_plan_and_the_house(self):
        self.assertEqual(show_plan(PLAN), PLAN_TEXT)
        self.assertEqual(show_house(HOUSE), HOUSE_TEXT)

    def test_the_plans(self):
        self.refused_texts(0, "", HOUSE_TEXT)
        self.refused_texts(3, PLAN_TEXT.replace("place 0\nplace 0", "place 0\nplace x"), HOUSE_TEXT)
        self.refused_texts(16, PLAN_TEXT.replace("plan 6", "plan 31"), HOUSE_TEXT)
        self.refused_texts(16, PLAN_TEXT + "\n", HOUSE_TEXT)
        self.refused_texts(0, HOUSE_TEXT, PLAN_TEXT)

    def test_the_houses(self):
        self.refused_texts(0, PLAN_TEXT, "")
        self.refused_texts(0, PLAN_TEXT, PLAN_TEXT)
        self.refused_texts(2, PLAN_TEXT, HOUSE_TEXT.replace("door 0 2", "door 0"))
        self.refused_texts(5, PLAN_TEXT, HOUSE_TEXT.replace("house 5", "house 46"))
        self.refused_texts(5, PLAN_TEXT, HOUSE_TEXT + "\n")

    def test_the_plans_ahead_of_the_houses(self):
        self.refused_texts(16, PLAN_TEXT + "\n", "")
        self.refused_texts(1, "plan 1", HOUSE_TEXT + "\n")
        self.refused_texts(2, "plan 1\nplace -", None)

    def test_things_that_are_no_texts(self):
        for thing in all_things():
            if type(thing) is not str:
                self.refused_texts(0, thing, HOUSE_TEXT)
                self.refused_texts(0, PLAN_TEXT, thing)
        self.refused_texts(0, PLAN, HOUSE)
        self.refused_texts(0, PLAN_TEXT.encode(), HOUSE_TEXT)
        self.refused_texts(0, PLAN_TEXT.split("\n"), HOUSE_TEXT)

    def test_at_the_bounds(self):
        desk = Desk(show_plan(GREAT_PLAN), show_house(GREAT_HOUSE))
        everybody = " ".join(map(str, range(30)))
        for line in ("999999999999 bell 999999999999 5", "0 bell 1 0", "0 count 999999999999 19 999999999999 " + everybody,
                     "0 look 44", "0 open 59", "0 seen 29 44", "0 shut 59"):
            self.assertEqual(desk.say(line), "new")
        self.answers(desk, "rows", "7")
        self.answers(desk, "bells", "1:0 999999999999:5")
        self.answers(desk, "search", "1")


class TestRows(Desks):
    LINES = ("3 bell 1 0", "4 count 1 0 3 0 2", "4 count 1 2 0", "0 look 4", "0 open 3", "999999999999 seen 5 0", "1 shut 0")

    def test_each_kind_new_and_known(self):
        desk = self.desk()
        for many, line in enumerate(self.LINES):
            self.answers(desk, "rows", str(many))
            self.assertEqual(desk.say(line), "new")
            self.assertEqual(desk.say(line), "known")
            self.answers(desk, "rows", str(many + 1))
        for line in self.LINES:
            self.answers(desk, line, "known")
        self.answers(desk, "rows", "7")

    def test_rows_that_differ_a_little_are_new(self):
        desk = self.desk("3 count 1 0 3 0 2")
        for line in ("4 count 1 0 3 0 2", "3 count 2 0 3 0 2", "3 count 1 1 3 0 2", "3 count 1 0 4 0 2", "3 count 1 0 3 0",
                     "3 count 1 0 3 0 1 2", "3 open 0", "3 shut 0", "3 look 0"):
            self.assertEqual(desk.say(line), "new")
        self.answers(desk, "rows", "10")

    def test_as_a_book_tells(self):
        chance = random.Random(91)
        rows = some_rows(chance, PLAN, 25) + some_log(chance, HOUSE, 25)
        desk, book = self.desk(), Book(PLAN, HOUSE)
        for turn in range(80):
            row = chance.choice(rows)
            self.assertEqual(desk.say(show_row(row)), "new" if book.add(row) else "known")
            self.assertEqual(desk.say("rows"), str(len(book.rows())))

    def test_two_desks_are_apart(self):
        one, other = self.desk("3 bell 1 0"), self.desk()
        self.answers(one, "rows", "1")
        self.answers(other, "rows", "0")


class TestQuestions(Desks):
    def test_of_no_rows(self):
        desk = self.desk()
        for line, wanted in (("bells", "-"), ("where 0", "0 1 2 3 4"), ("where 5", "0 1 2 3 4"), ("search", "1"), ("rows", "0")):
            self.answers(desk, line, wanted)
        for line in ("told 1", "told 0", "why 1 0", "twice 1", "crossed 1", "span 1 0"):
            self.refused(NoBell, desk, line)

    def test_bells(self):
        desk = self.desk("3 bell 2 1")
        self.answers(desk, "bells", "2:1")
        desk = self.desk("3 bell 2 1", "9 bell 1 0", "8 bell 12 2", "4 bell 2 0")
        self.answers(desk, "bells", "1:0 2:0 12:2")

    def test_told(self):
        desk = self.desk("3 bell 1 0")
        self.answers(desk, "told 1", "0 open, 1 open, 2 open, 3 open, 4 open")
        for line in ("4 count 1 2 0", "4 count 1 1 2"):
            desk.say(line)
        self.answers(desk, "told 1", "0 open, 1 there, 2 there, 3 lacks, 4 lacks")

    def test_told_where_nobody_is_called(self):
        desk = self.desk("3 bell 1 2")
        self.answers(desk, "told 1", "-")
        desk = self.desk("3 bell 1 2", "4 count 1 0 0")
        self.answers(desk, "told 1", "-")

    def test_why_of_papers(self):
        desk = self.desk("3 bell 1 0", "4 count 1 2 0", "4 count 1 1 2")
        rows = ((3, "bell", 1, 0), (4, "count", 1, 1, 2, ()), (4, "count", 1, 2, 0, ()))
        for p in range(5):
            answer = desk.say("why 1 %d" % p)
            self.assertTrue(shows_verdict(case_of(PLAN, rows, 1), p, verdict_read(answer)), answer)
        # 2 may come to 1 and to 3; with 1 they are all who may, and two are counted.
        self.answers(desk, "why 1 2", "there few 1 3")
        self.answers(desk, "why 1 1", "there few 1 3")
        # Nobody was counted at 2.
        self.answers(desk, "why 1 3", "lacks many 2")
        self.answers(desk, "why 1 4", "lacks many 2")

    def test_why_of_a_paper_without_places(self):
        # Who is named must be there: without any place that may be it is many of none.
        desk = self.desk("3 bell 1 0", "4 count 1 2 1 3")
        self.answers(desk, "why 1 3", "there many")

    def test_why_of_worlds(self):
        plan_text = "plan 3\nplace -\nplace 0\nwatch\npost 0 1\npost 1 2"
        desk = Desk(plan_text, "house 1")
        self.assertEqual(desk.say("0 bell 7 0"), "new")
        self.assertEqual(desk.say("0 count 7 0 1"), "new")
        # People 1 and 2 are called; either is there.
        self.answers(desk, "why 7 1", "open 0 - / - 1")
        self.answers(desk, "why 7 2", "open - 1 / 0 -")
        self.answers(desk, "told 7", "1 open, 2 open")
        self.refused(NoPerson, desk, "why 7 0")

    def test_why_of_worlds_where_one_alone_is_called(self):
        desk = Desk("plan 1\nplace -\nwatch\npost 0 0", "house 1")
        self.assertEqual(desk.say("0 bell 7 0"), "new")
        self.answers(desk, "why 7 0", "open 0 / -")

    def test_twice(self):
        desk = self.desk("3 bell 1 0", "4 count 1 1 2 1 2", "4 count 1 0 3 1 2")
        self.answers(desk, "twice 1", "-")
        desk = self.desk("3 bell 1 0", "4 count 1 3 2 1 2", "5 count 1 2 4 1 2 3 4")
        self.answers(desk, "twice 1", "1 2 3, 2 2 3")
        desk = self.desk("3 bell 1 0", "4 count 1 3 2 1 2", "5 count 1 2 1 3")
        self.answers(desk, "twice 1", "-")

    def test_crossed(self):
        self.answers(self.desk("3 bell 1 0"), "crossed 1", "no")
        self.answers(self.desk("3 bell 1 0", "4 count 1 1 2 1 2"), "crossed 1", "no")
        self.answers(self.desk("3 bell 1 0", "4 count 1 1 2 1", "4 count 1 1 2"), "crossed 1", "unlike 1")
        self.answers(self.desk("3 bell 1 0", "4 count 1 3 2 1 2", "4 count 1 2 4 2"), "crossed 1", "twice 2 2 3")
        self.answers(self.desk("3 bell 1 0", "4 count 1 3 2 0 1", "4 count 1 2 4 2"), "crossed 1", "stray 0 3")
        self.answers(self.desk("3 bell 1 0", "4 count 1 0 2 5"), "crossed 1", "stray 5 0")
        self.answers(self.desk("3 bell 1 0", "4 count 1 3 2 0", "4 count 1 1 3", "4 count 1 1 4", "4 count 1 2 1 0"),
                     "crossed 1", "unlike 1")

    def test_span(self):
        desk = self.desk("3 bell 1 0")
        for v, wanted in enumerate(("0 5", "0 2", "0 2", "0 1")):
            self.answers(desk, "span 1 %d" % v, wanted)
        desk = self.desk("3 bell 1 0", "4 count 1 1 2", "4 count 1 2 2 4")
        for v, wanted in enumerate(("4 5", "2 2", "2 2", "0 1")):
            self.answers(desk, "span 1 %d" % v, wanted)

    def test_where(self):
        desk = self.desk("3 seen 2 0")
        self.answers(desk, "where 2", "0")
        self.answers(desk, "where 1", "0 1 2 3 4")
        self.assertEqual(desk.say("4 open 1"), "new")
        self.answers(desk, "where 2", "0 2")
        self.assertEqual(desk.say("5 shut 1"), "new")
        self.assertEqual(desk.say("6 look 0"), "new")
        self.answers(desk, "where 2", "2")
        self.assertEqual(desk.say("7 look 2"), "new")
        self.answers(desk, "where 2", "-")

    def test_search(self):
        desk = self.desk()
        self.answers(desk, "search", "1")
        for line, wanted in (("1 open 0", "1"), ("2 open 2", "1"), ("3 open 1", "2")):
            self.assertEqual(desk.say(line), "new")
            self.answers(desk, "search", wanted)
        self.assertEqual(desk.say("4 open 3"), "new")
        self.assertEqual(self.refused(NoKind, desk, "search").room, 0)
        self.assertEqual(desk.say("5 shut 0"), "new")
        self.answers(desk, "search", "2")
        self.assertEqual(desk.say("6 shut 3"), "new")
        self.answers(desk, "search", "1")

    def test_search_of_a_fork(self):
        desk = Desk(PLAN_TEXT, "house 4\ndoor 0 1\ndoor 0 2\ndoor 0 3")
        for line in ("1 open 0", "1 open 1"):
            self.assertEqual(desk.say(line), "new")
        self.answers(desk, "search", "1")
        self.assertEqual(desk.say("1 open 2"), "new")
        self.answers(desk, "search", "2")

    def test_rows(self):
        desk = self.desk("3 seen 2 0", "3 bell 1 0")
        self.answers(desk, "rows", "2")
        for moment in range(198):
            self.assertEqual(desk.say("%d look 0" % moment), "new")
        self.answers(desk, "rows", "200")

    def test_a_second_bell(self):
        desk = self.desk("3 bell 1 0", "4 count 1 1 2", "4 count 1 2 0", "9 bell 2 1")
        # What is beneath 1 is as it was; at 2 it isn't.
        self.answers(desk, "told 2", "0 open, 1 there, 2 there, 3 open")
        self.answers(desk, "told 1", "0 open, 1 there, 2 there, 3 lacks, 4 lacks")
        self.answers(desk, "span 2 2", "0 2")


class TestNoLine(Desks):
    def setUp(self):
        self.busy = self.desk("3 bell 1 0", "4 count 1 2 0", "4 count 1 1 2", "5 open 1")

    def test_lines_of_no_form(self):
        for line in ("", " ", "  ", "-", "0", "bell", "bells ", " bells", "bells 1", "Bells", "BELLS", "bells\n", "\nbells",
                     "bells\nrows", "told", "told ", "told -", "told 1 ", "told  1", " told 1", "told 1 1", "told x", "told 01",
                     "told +1", "told -1", "told 1.", "told 1_0", "told 1\n", "why", "why 1", "why 1 ", "why 1 1 1", "why 1 x",
                     "why x 1", "why 01 1", "why 1 01", "twice", "twice 1 1", "twice x", "crossed", "crossed 1 1", "crossed -",
                     "span", "span 1", "span 1 1 1", "span 1 x", "span x 1", "span 1 00", "where", "where ", "where 1 1",
                     "where x", "where 00", "search 1", "search ", "searches", "rows 1", "rows ", "row", "what", "lacking 1",
                     "join", "plan 6", "place -", "watch", "house 5", "door 0 1", "no", "new", "known"):
            self.refused(NoLine, self.busy, line)

    def test_row_like_lines_of_no_form(self):
        for line in ("0 bell", "0 bell 1", "0 bell 1 0 0", "0 count 1 2", "0 look", "0 look 1 1", "0 open", "0 seen 1",
                     "0 seen 1 2 3", "0 shut", "0 Look 1", "look 1", " 0 look 1", "0 look 1 ", "0  look 1", "0 look 1\n",
                     "0 look 1\n0 look 2", "- look 1", "0 look -", "00 look 1", "0 look 01", "0 told 1", "0 bells", "0 rows",
                     "0 watch", "0 post 1 1", "0 place 1"):
            self.refused(NoLine, self.busy, line)

    def test_numbers_of_many_figures(self):
        for many in (13, 14, 100, 4300, 4301, 19000):
            for figure in ("1", "0", "9"):
                number = figure * many
                for line in ("told " + number, "why 1 " + number, "span " + number + " 0", "where " + number,
                             number + " look 0", "0 look " + number, "0 count 1 1 " + number, number, "twice " + number):
                    self.refused(NoLine, self.busy, line)
        # Twelve figures are a number.
        self.refused(NoBell, self.busy, "told 999999999999")
        self.refused(NoPerson, self.busy, "where 999999999999")
        self.refused(NoPlace, self.busy, "span 1 999999999999")
        self.refused(NoRow, self.busy, "0 look 999999999999")

    def test_other_figures(self):
        for line in ("told \u0661", "told \u00b9", "0 look \uff11", "told\u00a01", "told\t1", "\u0660 look 1"):
            self.refused(NoLine, self.busy, line)

    def test_things_that_are_no_texts(self):
        for thing in all_things():
            if type(thing) is not str:
                self.refused(NoLine, self.busy, thing)
        for thing in (b"bells", b"rows", ["bells"], ("bells",), ("told", 1), (3, "bell", 1, 0), {"rows": 1}, [["rows"]]):
            self.refused(NoLine, self.busy, thing)

    def test_the_empty_and_other_texts_of_all_things(self):
        for thing in all_things():
            if type(thing) is str:
                self.refused(NoLine, self.busy, thing)


class TestRefusals(Desks):
    CROSSED = ("3 bell 1 0", "4 count 1 1 2 1", "4 count 1 1 2")
    NO_WORLD = ("3 bell 1 0", "4 count 1 1 3")

    def test_no_row(self):
        desk = self.desk("3 bell 1 0", "5 count 1 1 1")
        for line in ("0 bell 0 0", "0 bell 1 3", "0 count 0 0 0", "0 count 1 4 0", "0 count 1 0 0 1", "0 count 1 0 1 0 1",
                     "0 count 1 0 2 6", "0 count 1 0 2 1 1", "0 count 1 0 2 1 0", "0 look 5", "0 open 4", "0 shut 4",
                     "0 seen 6 0", "0 seen 0 5", "0 look 999999999999"):
            self.refused(NoRow, desk, line)

    def test_no_bell(self):
        desk = self.desk("3 bell 2 0", "4 count 3 0 1")
        for b in (0, 1, 3, 999999999999):
            for line in ("told %d", "why %d 0", "twice %d", "crossed %d", "span %d 0"):
                self.refused(NoBell, desk, line % b)

    def test_no_person(self):
        desk = self.desk("3 bell 1 0", "3 bell 2 1", "3 bell 3 2")
        for line in ("where 6", "where 7", "where 999999999999", "why 1 6", "why 1 999999999999", "why 1 5", "why 2 4",
                     "why 3 0", "why 3 5"):
            self.refused(NoPerson, desk, line)
        # Who isn't called can still be anywhere.
        self.answers(desk, "where 5", "0 1 2 3 4")

    def test_no_place(self):
        desk = self.desk("3 bell 1 0")
        for v in (4, 5, 20, 999999999999):
            self.refused(NoPlace, desk, "span 1 %d" % v)

    def test_crossed(self):
        desk = self.desk(*self.CROSSED)
        for line in ("told 1", "why 1 0", "why 1 4", "span 1 0", "span 1 3"):
            self.assertEqual(self.refused(Crossed, desk, line).why,
                             ("unlike", (4, "count", 1, 1, 2, ()), (4, "count", 1, 1, 2, (1,))))
        self.answers(desk, "crossed 1", "unlike 1")
        self.answers(desk, "twice 1", "-")

    def test_no_world(self):
        desk = self.desk(*self.NO_WORLD)
        for line in ("told 1", "why 1 0", "why 1 4", "span 1 0", "span 1 1"):
            self.assertEqual(self.refused(NoWorld, desk, line).paper, ("few", (1, 3)))
        self.answers(desk, "crossed 1", "no")
        self.answers(desk, "twice 1", "-")

    def test_no_world_where_nobody_is_called(self):
        desk = self.desk("3 bell 1 2", "4 count 1 0 1")
        for line in ("told 1", "span 1 0", "span 1 3"):
            self.refused(NoWorld, desk, line)
        self.refused(NoPerson, desk, "why 1 0")

    def test_no_kind(self):
        desk = self.desk("0 open 0", "0 open 1", "0 open 2", "0 open 3")
        self.assertEqual(self.refused(NoKind, desk, "search").room, 0)
        desk = Desk(PLAN_TEXT, "house 6\ndoor 0 1\ndoor 2 3\ndoor 2 4\ndoor 3 4\ndoor 4 5")
        for door in range(5):
            self.assertEqual(desk.say("0 open %d" % door), "new")
        self.assertEqual(self.refused(NoKind, desk, "search").room, 2)

    def test_which_comes_first(self):
        desk = self.desk(*self.CROSSED, "9 open 0", "9 open 1", "9 open 2", "9 open 3")
        # A form that is none, be there a row, a bell, a person, a place or not.
        for line in ("0 look 99 99", "0 bell 0", "told 9 9", "why 9 99 9", "span 9", "span 9 99 ", "where 99 ", "why 1 x",
                     "search 1"):
            self.refused(NoLine, desk, line)
        # No bell, be there a person, a place or not.
        for line in ("why 9 99", "why 9 5", "why 9 0", "span 9 99", "span 9 0", "told 9"):
            self.refused(NoBell, desk, line)
        # No person or place, be the counts crossed or not.
        for line in ("why 1 99", "why 1 5"):
            self.refused(NoPerson, desk, line)
        self.refused(NoPlace, desk, "span 1 99")
        # The crossing, be there a world or not.
        self.assertEqual(desk.say("4 count 1 2 9"), "new")
        for line in ("told 1", "why 1 0", "span 1 0"):
            self.refused(Crossed, desk, line)
        desk = self.desk(*self.NO_WORLD)
        self.refused(NoPerson, desk, "why 1 5")
        self.refused(NoPlace, desk, "span 1 4")
        self.refused(NoBell, desk, "why 2 5")
        self.refused(NoWorld, desk, "why 1 4")

    def test_each_made_with_a_text_but_those_with_values(self):
        desk = self.desk("3 bell 1 0")
        for kind, line in ((NoLine, "x"), (NoRow, "0 look 9"), (NoBell, "told 2"), (NoPerson, "where 9"),
                           (NoPlace, "span 1 9")):
            error = self.refused(kind, desk, line)
            self.assertTrue(str(error))


class TestAsTheFunctionsTell(Desks):
    def questions(self, plan, chance):
        numbers = lambda most: chance.choice(range(most + 2))
        for b in range(1, 6):
            yield from ("told %d" % b, "twice %d" % b, "crossed %d" % b)
            for turn in range(3):
                yield "why %d %d" % (b, numbers(plan[0]))
                yield "span %d %d" % (b, numbers(len(plan[1])))
        for turn in range(4):
            yield "where %d" % numbers(plan[0])
        yield from ("bells", "search", "rows", "told x", "0 look 99")

    def compare(self, desk, plan, house, rows, line, seen):
        """That the desk answers or refuses as the words and the functions tell."""
        due = refusal_by_words(plan, house, rows, line)
        word = line.split(" ")[0]
        if due is not None:
            with self.assertRaises(BellError) as caught:
                desk.say(line)
            self.assertIs(type(caught.exception), due[0], line)
            values = sorted(vars(caught.exception).values())
            self.assertEqual(values, [] if due[1] is None else [due[1]])
            seen.add((word, due[0]))
            return
        answer = desk.say(line)
        seen.add((word, answer.split(" ")[0] if word == "why" else None))
        if word != "why":
            self.assertEqual(answer, answer_by_functions(plan, house, rows, line), line)
            return
        b, p = map(int, line.split(" ")[1:])
        found = verdict_read(answer)
        case, people = case_of(plan, rows, b), called(plan, dict(bells(rows))[b])
        self.assertTrue(shows_verdict(case, people.index(p), found), (line, answer))
        self.assertEqual(found[0], dict(told(plan, rows, b))[p])

    def some_desk(self, chance):
        plan = some_plan(chance, chance.randint(2, 6), chance.randint(1, 4), chance.randint(1, 3))
        house = some_house(chance, chance.randint(1, 6))
        rows = some_rows(chance, plan, chance.randint(1, 9), bells=3, names=1) + some_log(chance, house, chance.randint(0, 9))
        rows = [row for row in set(rows) if is_row(plan, house, row)]
        return plan, house, rows

    def test_of_any_rows(self):
        chance = random.Random(92)
        seen = set()
        for turn in range(150):
            plan, house, rows = self.some_desk(chance)
            desk = Desk(show_plan(plan), show_house(house))
            for row in rows:
                self.assertEqual(desk.say(show_row(row)), "new")
            for line in self.questions(plan, chance):
                self.compare(desk, plan, house, tuple(sorted(rows)), line, seen)
        for pair in (("told", None), ("told", NoBell), ("told", Crossed), ("told", NoWorld), ("why", "lacks"),
                     ("why", "there"), ("why", "open"), ("why", NoBell), ("why", NoPerson), ("why", Crossed), ("why", NoWorld),
                     ("span", None), ("span", NoBell), ("span", NoPlace), ("span", Crossed), ("span", NoWorld),
                     ("where", None), ("where", NoPerson), ("search", None), ("search", NoKind), ("twice", None),
                     ("crossed", None), ("bells", None), ("rows", None)):
            self.assertIn(pair, seen)

    def test_rows_said_in_another_order_or_twice_come_to_the_same(self):
        chance = random.Random(93)
        for turn in range(40):
            plan, house, rows = self.some_desk(chance)
            found = set()
            questions = list(self.questions(plan, chance))
            for order in range(3):
                said = rows + chance.sample(rows, len(rows) // 2)
                chance.shuffle(said)
                desk = Desk(show_plan(plan), show_house(house))
                for row in said:
                    desk.say(show_row(row))
                    if chance.random() < 0.2:
                        # What is asked and what is refused in between changes nothing.
                        for line in chance.sample(questions, 3) + ["0 look 99", "x", None]:
                            try:
                                desk.say(line)
                            except BellError:
                                pass
                found.add(repr([self.said(desk, line) for line in questions]))
            self.assertEqual(len(found), 1)

    def said(self, desk, line):
        try:
            return desk.say(line)
        except BellError as error:
            return type(error).__name__, sorted(vars(error).items())


if __name__ == "__main__":
    unittest.main()
