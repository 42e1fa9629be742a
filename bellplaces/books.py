"""Books: the rows of a plan and a house, in whatever order they came, late or twice."""

from bellplaces.errors import NoHouse, NoPlan, NoRow
from bellplaces.houses import is_house
from bellplaces.plans import is_plan
from bellplaces.rows import is_row


class Book:
    """All rows that were added, each once."""

    def __init__(self, plan, house):
        if not is_plan(plan):
            raise NoPlan("no plan")
        if not is_house(house):
            raise NoHouse("no house")
        self.plan = plan
        self.house = house
        self.held = {}

    def add(self, row):
        """Add a row; whether it is new to the book."""
        if not is_row(self.plan, self.house, row):
            raise NoRow("no row of this plan and house")
        new = row not in self.held
        self.held[row] = True
        return new

    def rows(self):
        """The rising tuple of all rows."""
        return tuple(sorted(self.held))

    def join(self, other):
        """Add all rows of a book of the same plan and house."""
        for row in other.rows():
            self.add(row)
