"""Stretches: tuples (low, high) for all numbers from low to high, None for no number."""

LIMIT = 1000000


def cut(low, high):
    """The stretch of what is not beyond LIMIT either way; None if nothing is left."""
    return met((low, high), (-LIMIT, LIMIT))


def plus(one, other):
    """The stretch of the sums."""
    return cut(one[0] + other[0], one[1] + other[1])


def minus(one, other):
    """The stretch of the differences."""
    return cut(one[0] - other[1], one[1] - other[0])


def times(one, other):
    """The stretch of the products."""
    products = [left * right for left in one for right in other]
    return cut(min(products), max(products))


def rest(one, by):
    """The stretch of what can be left, divided by by."""
    if by < 1:
        # No number lies from nought to by - 1, and a division by nought would raise an error.
        return None
    low, high = one
    if low // by == high // by:
        return (low % by, high % by)
    return (0, by - 1)


def joined(one, other):
    """The least stretch that has both."""
    if one is None:
        return other
    if other is None:
        return one
    return (min(one[0], other[0]), max(one[1], other[1]))


def met(one, other):
    """The numbers that lie in both."""
    if one is None or other is None:
        return None
    low = max(one[0], other[0])
    high = min(one[1], other[1])
    if low > high:
        return None
    return (low, high)


def many_below(marks, number):
    """How many of the marks are less than number."""
    # The marks rise, and a program may have thousands of them: so the search halves them.
    start = 0
    stop = len(marks)
    while start < stop:
        middle = (start + stop) // 2
        if marks[middle] < number:
            start = middle + 1
        else:
            stop = middle
    return start


def rounded(one, marks):
    """The stretch widened to the nearest marks, or to the limit where there is no mark."""
    low, high = one
    many_up_to_low = many_below(marks, low + 1)
    many_before_high = many_below(marks, high)
    return (
        marks[many_up_to_low - 1] if many_up_to_low > 0 else -LIMIT,
        marks[many_before_high] if many_before_high < len(marks) else LIMIT,
    )
