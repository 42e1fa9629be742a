"""Reading: plans, houses and rows from their texts."""

from bellplaces.errors import NoText
from bellplaces.houses import is_house
from bellplaces.plans import are_ups, is_plan

FIGURES = "0123456789"
MOST_FIGURES = 12
# How many numbers are written behind each word: just so many, or at least so many.
JUST = {"plan": 1, "place": 1, "watch": 0, "house": 1, "door": 2, "bell": 2, "look": 1, "open": 1, "seen": 2, "shut": 1}
LEAST = {"post": 2, "count": 3}
ROW_WORDS = ("bell", "count", "look", "open", "seen", "shut")


def number_of(word):
    """The number that the word writes, None if it writes none."""
    # Asked by figures, since Python reads signs, blanks and other figures, too, and won't read too many of them.
    if len(word) > MOST_FIGURES or not all(sign in FIGURES for sign in word):
        return None
    if word == "" or (word[0] == "0" and word != "0"):
        return None
    return int(word)


def numbers_of(words):
    """The tuple of the numbers that these words write, None if one of them writes none."""
    found = tuple(number_of(word) for word in words)
    return None if None in found else found


def can_be_behind(word, many):
    """Whether so many numbers can be written behind the word."""
    if word in LEAST:
        return many >= LEAST[word]
    return word in JUST and many == JUST[word]


def statement(words):
    """(word, numbers ..) of a word and the numbers behind it, None if these have no such form."""
    numbers = numbers_of(words[1:])
    if numbers is None or not can_be_behind(words[0], len(numbers)):
        return None
    return (words[0],) + numbers


def statement_of(line):
    """What a row of a plan's or a house's text says, None if it has no such form."""
    if line == "place -":
        return "place", None
    return statement(line.split(" "))


def plan_bears(last, row):
    """Whether the row can stand in a plan's text right behind the last one, None where it is the first."""
    word = row[0]
    if last is None:
        return word == "plan"
    if word == "place":
        return last[0] in ("plan", "place")
    if word == "post":
        return last[0] == "watch" or (last[0] == "post" and last[1] <= row[1])
    return word == "watch"


def house_bears(last, row):
    """Whether the row can stand in a house's text right behind the last one, None where it is the first."""
    return row[0] == ("house" if last is None else "door")


def read_rows(text, bears):
    """What each row of the text says; refused with NoText by the first one that the text doesn't bear."""
    if not isinstance(text, str):
        raise NoText(0)
    rows = []
    last = None
    for at, line in enumerate(text.split("\n")):
        row = statement_of(line)
        if row is None or not bears(last, row):
            raise NoText(at)
        rows.append(row)
        last = row
    return rows


def watches_of(rows, places):
    """The watches that the rows of a plan's text write, none of their posts being of a place that there isn't."""
    watches = []
    for row in rows:
        if row[0] == "watch":
            watches.append([[] for v in range(places)])
        if row[0] == "post":
            watches[-1][row[1]].append(row[2:])
    return tuple(tuple(tuple(posts) for posts in watch) for watch in watches)


def read_plan(text):
    """The plan that the text, of whatever kind, writes; refused with NoText."""
    rows = read_rows(text, plan_bears)
    ups = tuple(row[1] for row in rows if row[0] == "place")
    if not are_ups(ups) or any(row[0] == "post" and row[1] >= len(ups) for row in rows):
        raise NoText(len(rows))
    plan = (rows[0][1], ups, watches_of(rows, len(ups)))
    if not is_plan(plan):
        raise NoText(len(rows))
    return plan


def read_house(text):
    """The house that the text, of whatever kind, writes; refused with NoText."""
    rows = read_rows(text, house_bears)
    house = (rows[0][1], tuple(row[1:] for row in rows[1:]))
    if not is_house(house):
        raise NoText(len(rows))
    return house


def read_row(text):
    """The tuple of what the text, of whatever kind, writes, be it a row of some plan or not; refused with NoText."""
    if not isinstance(text, str):
        raise NoText(0)
    words = text.split(" ")
    moment = number_of(words[0])
    row = statement(words[1:] or [""])
    if moment is None or row is None or row[0] not in ROW_WORDS:
        raise NoText(0)
    if row[0] == "count":
        return (moment,) + row[:4] + (row[4:],)
    return (moment,) + row
