"""What may stand in a program: numbers, names, expressions, conditions and rows."""

from boundwatch.stretches import LIMIT

DEEPEST = 6


def is_whole(thing, least, most):
    """Whether it is a whole number from least to most."""
    # True and False are integers for isinstance, but no numbers here.
    return type(thing) is int and least <= thing <= most


def is_number(thing):
    """Whether it is a number as a row may have it."""
    return is_whole(thing, -LIMIT, LIMIT)


def is_name(thing):
    """Whether it is a text of 1 to 8 letters from a to z."""
    if not isinstance(thing, str) or not 1 <= len(thing) <= 8:
        return False
    return thing.isascii() and thing.isalpha() and thing.islower()


def is_shelf(thing, shelves):
    """Whether it is one of the shelves."""
    # What is no name may be nothing that a dict can be asked for.
    return is_name(thing) and thing in shelves


def is_expression(thing, levels=DEEPEST):
    """Whether it is an expression that is so many levels deep at most."""
    if is_number(thing) or is_name(thing):
        return True
    # Going no deeper than the levels also keeps the recursion short, whatever is handed in.
    if levels < 2 or not isinstance(thing, tuple) or len(thing) != 3:
        return False
    sign, first, second = thing
    if sign == "rest":
        return is_expression(first, levels - 1) and is_whole(second, 1, LIMIT)
    if sign not in ("+", "-", "*"):
        return False
    return is_expression(first, levels - 1) and is_expression(second, levels - 1)


def is_condition(thing):
    """Whether it is a condition."""
    if not isinstance(thing, tuple) or len(thing) != 3:
        return False
    sign, left, right = thing
    return sign in ("<", "<=", "=", "!=") and is_expression(left) and is_expression(right)


def is_row(thing, shelves, many):
    """Whether it is a row of a program with these shelves and so many rows."""
    # The patterns below would take a list for a tuple.
    if not isinstance(thing, tuple):
        return False
    match thing:
        case ("set", name, a):
            return is_name(name) and is_expression(a)
        case ("take", name, low, high):
            return is_name(name) and is_number(low) and is_number(high) and low <= high
        case ("get", name, shelf, index):
            return is_name(name) and is_shelf(shelf, shelves) and is_expression(index)
        case ("put", shelf, index, a):
            return is_shelf(shelf, shelves) and is_expression(index) and is_expression(a)
        case ("when", condition, goal):
            return is_condition(condition) and is_whole(goal, 0, many)
        case ("jump", goal):
            return is_whole(goal, 0, many)
        case ("stop",):
            return True
        case _:
            return False
