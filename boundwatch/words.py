"""What expressions and conditions come to, of what each name holds."""

from boundwatch.stretches import LIMIT


def counted(sign, left, right):
    """The sum, difference or product; None where it is beyond LIMIT, or one side is None."""
    if left is None or right is None:
        return None
    if sign == "+":
        found = left + right
    elif sign == "-":
        found = left - right
    else:
        found = left * right
    if found < -LIMIT or found > LIMIT:
        return None
    return found


def left_over(number, by):
    """What is left of number, divided by by; None where there is no such number."""
    # With a by below 1 no number lies from nought to by - 1, as for the rest of a stretch.
    if number is None or by < 1:
        return None
    return number % by


def worth(expression, held):
    """What the expression comes to; None where the run's end would be "great"."""
    if isinstance(expression, int):
        return expression
    if isinstance(expression, str):
        return held[expression]
    sign, first, second = expression
    if sign == "rest":
        return left_over(worth(first, held), second)
    return counted(sign, worth(first, held), worth(second, held))


def holds(condition, held):
    """Whether the condition holds; None where the run's end would be "great"."""
    sign, first, second = condition
    left = worth(first, held)
    right = worth(second, held)
    if left is None or right is None:
        return None
    if sign == "<":
        return left < right
    if sign == "<=":
        return left <= right
    if sign == "=":
        return left == right
    return left != right
