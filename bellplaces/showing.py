"""Showing: plans, houses and rows written as texts."""


def spelled(items):
    """One row of a text: the words and numbers, None as -, parted by blanks."""
    return " ".join("-" if item is None else str(item) for item in items)


def watch_rows(watch):
    """The rows that write one watch."""
    return ["watch"] + [spelled(("post", v) + post) for v, posts in enumerate(watch) for post in posts]


def show_plan(plan):
    """The text of a plan."""
    people, ups, watches = plan
    rows = [spelled(("plan", people))] + [spelled(("place", up)) for up in ups]
    for watch in watches:
        rows += watch_rows(watch)
    return "\n".join(rows)


def show_house(house):
    """The text of a house."""
    rooms, doors = house
    return "\n".join([spelled(("house", rooms))] + [spelled(("door",) + door) for door in doors])


def show_row(row):
    """The text of a row."""
    if row[1] == "count":
        return spelled(row[:5] + row[5])
    return spelled(row)
