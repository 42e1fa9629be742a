"""The desk: rows are said to it line by line, and questions of them are answered by lines."""

from bellplaces.books import Book
from bellplaces.errors import NoLine, NoPerson, NoPlace, NoText
from bellplaces.fewest import fewest
from bellplaces.force import bells, case_of, crossing, rung_watches, twice
from bellplaces.logs import open_doors
from bellplaces.musters import told
from bellplaces.plans import called
from bellplaces.reading import numbers_of, read_house, read_plan, read_row
from bellplaces.rooms import rooms_for
from bellplaces.showing import spelled
from bellplaces.verdicts import span, verdict


def answer_bells(book, numbers):
    """Of `bells`: each bell that was rung and its watch."""
    return " ".join(f"{b}:{watch}" for b, watch in bells(book.rows())) or "-"


def answer_told(book, numbers):
    """Of `told B`: what is told of each person called."""
    found = told(book.plan, book.rows(), numbers[0])
    return ", ".join(spelled(pair) for pair in found) or "-"


def answer_why(book, numbers):
    """Of `why B P`: what shows what is told of the person."""
    b, p = numbers
    rows = book.rows()
    people = called(book.plan, rung_watches(rows, b)[b])
    if p not in people:
        raise NoPerson("no such person is called")
    found = verdict(case_of(book.plan, rows, b), people.index(p))
    if found[0] == "open":
        return spelled(found[:1] + found[1] + ("/",) + found[2])
    word, (sort, places) = found
    return spelled((word, sort) + places)


def answer_twice(book, numbers):
    """Of `twice B`: each person whom two counts name that are apart, with both places."""
    found = twice(book.plan, book.rows(), numbers[0])
    return ", ".join(spelled((p, one[3], other[3])) for p, one, other in found) or "-"


def answer_crossed(book, numbers):
    """Of `crossed B`: the crossing, with the places of its counts."""
    why = crossing(book.plan, book.rows(), numbers[0])
    if why is None:
        return "no"
    if why[0] == "unlike":
        return spelled((why[0], why[1][3]))
    return spelled(why[:2] + tuple(row[3] for row in why[2:]))


def answer_span(book, numbers):
    """Of `span B V`: the least and the greatest number of people at the place and beneath."""
    b, v = numbers
    rows = book.rows()
    # A bell that wasn't rung is refused ahead of a place that there isn't.
    rung_watches(rows, b)
    if v >= len(book.plan[1]):
        raise NoPlace("no such place")
    return spelled(span(case_of(book.plan, rows, b), v))


def answer_where(book, numbers):
    """Of `where P`: the rooms in which the person can be."""
    if numbers[0] >= book.plan[0]:
        raise NoPerson("no such person")
    return spelled(rooms_for(book.house, book.rows(), numbers[0])) or "-"


def answer_search(book, numbers):
    """Of `search`: the fewest searchers, by the doors that are open now."""
    return str(fewest(book.house, open_doors(book.rows())))


def answer_rows(book, numbers):
    """Of `rows`: how many there are."""
    return str(len(book.rows()))


ANSWERS = {
    "bells": answer_bells, "told": answer_told, "why": answer_why, "twice": answer_twice, "crossed": answer_crossed,
    "span": answer_span, "where": answer_where, "search": answer_search, "rows": answer_rows,
}
# How many numbers are asked with behind each word.
ASKED_WITH = {"bells": 0, "told": 1, "why": 2, "twice": 1, "crossed": 1, "span": 2, "where": 1, "search": 0, "rows": 0}


def row_of(line):
    """The row that the line writes; refused with NoLine."""
    try:
        return read_row(line)
    except NoText:
        raise NoLine("no line of any form") from None


class Desk:
    """A plan, a house, and all rows that were said so far."""

    def __init__(self, plan_text, house_text):
        plan = read_plan(plan_text)
        self.book = Book(plan, read_house(house_text))

    def say(self, line):
        """Say a row or ask a question; the answer."""
        words = line.split(" ") if isinstance(line, str) else [""]
        if words[0] not in ANSWERS:
            return "new" if self.book.add(row_of(line)) else "known"
        numbers = numbers_of(words[1:])
        if numbers is None or len(numbers) != ASKED_WITH[words[0]]:
            raise NoLine("no question of any form")
        answer = ANSWERS[words[0]]
        return answer(self.book, numbers)
