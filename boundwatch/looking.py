"""What is known at each row of a program, whatever a run of it takes."""

from boundwatch.knowing import contrary, kept, reach
from boundwatch.stretches import joined, met, rounded


def indexed(index, length, known):
    """What is known of names where the index is a place of a shelf; None where it cannot be."""
    left = met(reach(index, known), (0, length - 1))
    if left is None:
        return None
    if isinstance(index, str):
        return {**known, index: left}
    return dict(known)


def behind_put(row, length, known, shelves):
    """What is known of names and shelves behind a put; None where no run comes behind it."""
    _, shelf, index, a = row
    names = indexed(index, length, known)
    if names is None:
        return None
    stretch = reach(a, names)
    if stretch is None:
        return None
    return names, {**shelves, shelf: joined(shelves[shelf], stretch)}


def behind_plain(program, row, known, shelves):
    """What is known behind a row that only goes on to the next; None where no run comes there."""
    match row:
        case ("set", name, a):
            stretch = reach(a, known)
            return None if stretch is None else ({**known, name: stretch}, dict(shelves))
        case ("take", name, low, high):
            return {**known, name: (low, high)}, dict(shelves)
        case ("get", name, shelf, index):
            names = indexed(index, program.shelves[shelf], known)
            return None if names is None else ({**names, name: shelves[shelf]}, dict(shelves))
        case _:
            return behind_put(row, program.shelves[row[1]], known, shelves)


def behind(program, at, known, shelves):
    """The ways on from a row: a list of tuples (goal, names, shelves)."""
    # Nothing is done at the place behind all rows; and below nought a list would count from its end.
    if not 0 <= at < len(program.rows):
        return []
    row = program.rows[at]
    match row:
        case ("when", condition, goal):
            ways = [(goal, kept(condition, known)), (at + 1, kept(contrary(condition), known))]
            return [(place, names, dict(shelves)) for place, names in ways if names is not None]
        case ("jump", goal):
            return [(goal, dict(known), dict(shelves))]
        case ("stop",):
            return []
        case _:
            found = behind_plain(program, row, known, shelves)
            return [] if found is None else [(at + 1, *found)]


def widened(told, come, marks):
    """What was told, each stretch joined with the one that has come; rounded where there are marks."""
    found = dict(told)
    for key, stretch in come.items():
        # Most stretches come as they were told, and what was told at a head is rounded already.
        if told.get(key) != stretch:
            wide = joined(told.get(key), stretch)
            found[key] = wide if marks is None else rounded(wide, marks)
    return found


def told_with(program, goal, told, come):
    """What is told at the goal, names and shelves, once that has come there too."""
    marks = program.marks if goal in program.heads else None
    if told is None:
        told = ({}, {})
    return widened(told[0], come[0], marks), widened(told[1], come[1], marks)


def looked(program):
    """For each row and for the place behind all rows what is known there: None, or (names, shelves)."""
    told = [None] * (len(program.rows) + 1)
    told[0] = ({name: (0, 0) for name in program.names}, {shelf: (0, 0) for shelf in program.shelves})
    waiting = {0: True}
    while waiting:
        # Any order tells the same; the least row first lets a loop come to rest before what follows it.
        at = min(waiting)
        del waiting[at]
        known, shelves = told[at]
        for goal, *come in behind(program, at, known, shelves):
            wide = told_with(program, goal, told[goal], come)
            if wide != told[goal]:
                told[goal] = wide
                waiting[goal] = True
    return told


def index_told(program):
    """For each get and put whether its index is a place of its shelf; None for other rows."""
    told = looked(program)
    return [told_of_index(program, row, told[at]) for at, row in enumerate(program.rows)]


def told_of_index(program, row, known):
    """What index_told tells of a row at which this is known."""
    match row:
        case ("get", _, shelf, index):
            return told_of_place(index, program.shelves[shelf], known)
        case ("put", shelf, index, _):
            return told_of_place(index, program.shelves[shelf], known)
        case _:
            return None


def told_of_place(index, length, known):
    """Whether the index is a place of a shelf of that length: never, within, out or either."""
    if known is None:
        return "never"
    stretch = reach(index, known[0])
    places = met(stretch, (0, length - 1))
    if places is None:
        return "out"
    return "within" if places == stretch else "either"


def ways_told(program):
    """For each when whether a run can go on to its goal and to the next row; None for other rows."""
    told = looked(program)
    return [told_of_ways(row, told[at]) for at, row in enumerate(program.rows)]


def told_of_ways(row, known):
    """What ways_told tells of a row at which this is known."""
    match row:
        case ("when", condition, _):
            if known is None:
                return (False, False)
            return (kept(condition, known[0]) is not None, kept(contrary(condition), known[0]) is not None)
        case _:
            return None
