"""All refusals: each class straight under BellError, so that a caller may catch one or all."""


class BellError(ValueError):
    """What every refusal of this package is."""


class NoPlan(BellError):
    """What was handed in is no plan."""


class NoHouse(BellError):
    """What was handed in is no house."""


class NoRow(BellError):
    """What was handed in is no row of this plan and house."""


class NoBell(BellError):
    """That bell was not rung."""


class NoRoom(BellError):
    """No trace ends in that room."""


class NoLine(BellError):
    """The desk knows no line of that form."""


class NoPerson(BellError):
    """There is no such person, or they are not called."""


class NoPlace(BellError):
    """There is no such place."""


class Crossed(BellError):
    """The counts in force gainsay one another; why is the crossing."""

    def __init__(self, why):
        self.why = why


class NoWorld(BellError):
    """No world fits; paper shows it."""

    def __init__(self, paper):
        self.paper = paper


class NoMove(BellError):
    """A move can't be; at is its number."""

    def __init__(self, at):
        self.at = at


class NoKind(BellError):
    """A part of the house is neither a tree nor a ring; room is its least room."""

    def __init__(self, room):
        self.room = room


class NoText(BellError):
    """A text can't be read; row is the number of the row at which that shows."""

    def __init__(self, row):
        self.row = row
