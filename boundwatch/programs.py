"""Programs: their shelves and rows, and the names, marks and heads of these."""

from boundwatch.checks import is_name, is_row, is_whole
from boundwatch.errors import BadRow, BadShelves
from boundwatch.stretches import LIMIT

MOST_SHELVES = 4
LONGEST_SHELF = 100
MOST_ROWS = 60


def check_shelves(shelves):
    """Refuses shelves that may not stand."""
    if len(shelves) > MOST_SHELVES:
        raise BadShelves("there are too many shelves")
    for name, length in shelves.items():
        if not is_name(name):
            raise BadShelves("a shelf is not called by a name")
        if not is_whole(length, 1, LONGEST_SHELF):
            raise BadShelves("a shelf has a length that may not stand")


def check_rows(shelves, rows):
    """Refuses the first row that may not stand."""
    for at, row in enumerate(rows):
        if at >= MOST_ROWS or not is_row(row, shelves, len(rows)):
            raise BadRow(at)


def leaves(expression):
    """The numbers and names in an expression or a condition, as often as they stand there."""
    if isinstance(expression, tuple):
        return leaves(expression[1]) + leaves(expression[2])
    return [expression]


def written(row):
    """The numbers and names written in a row; no goals, and no names of shelves."""
    match row:
        case ("set", name, a):
            return [name] + leaves(a)
        case ("take", name, low, high):
            return [name, low, high]
        case ("get", name, _, index):
            return [name] + leaves(index)
        case ("put", _, index, a):
            return leaves(index) + leaves(a)
        case ("when", condition, _):
            return leaves(condition)
        case _:
            return []


def goals_of(row):
    """The goals written in a row."""
    match row:
        case ("when", _, goal):
            return [goal]
        case ("jump", goal):
            return [goal]
        case _:
            return []


def marks_of(shelves, rows):
    """Nought, the lengths and the numbers written, each with the numbers one less and one more."""
    numbers = [part for row in rows for part in written(row) if isinstance(part, int)]
    numbers = [0] + list(shelves.values()) + numbers
    near = [number + more for number in numbers for more in (-1, 0, 1)]
    return sorted({number for number in near if -LIMIT <= number <= LIMIT})


class Program:
    """A program that may stand."""

    def __init__(self, shelves, rows):
        check_shelves(shelves)
        check_rows(shelves, rows)
        # Rows are tuples of tuples, texts and numbers: a copy of the list is one of all.
        self.shelves = dict(shelves)
        self.rows = list(rows)
        self.names = sorted({part for row in rows for part in written(row) if isinstance(part, str)})
        self.marks = marks_of(shelves, rows)
        self.heads = sorted({goal for at, row in enumerate(rows) for goal in goals_of(row) if goal <= at})
