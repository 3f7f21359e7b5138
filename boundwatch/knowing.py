"""What expressions reach, and what is known where a condition holds."""

from boundwatch.stretches import met, minus, plus, rest, times


def reach(expression, known):
    """The stretch that the expression reaches; None where it comes to no number."""
    if isinstance(expression, int):
        return (expression, expression)
    if isinstance(expression, str):
        return known[expression]
    sign, first, second = expression
    left = reach(first, known)
    if left is None:
        return None
    if sign == "rest":
        return rest(left, second)
    right = reach(second, known)
    if right is None:
        return None
    if sign == "+":
        return plus(left, right)
    if sign == "-":
        return minus(left, right)
    return times(left, right)


def can_hold(sign, left, right):
    """Whether a number of the left stretch stands so to a number of the right one."""
    if sign == "<":
        return left[0] < right[1]
    if sign == "<=":
        return left[0] <= right[1]
    if sign == "=":
        return met(left, right) is not None
    return left[0] != left[1] or left != right


def without(one, other):
    """The first stretch, without what is its end and all that the other one reaches."""
    if other == (one[0], one[0]):
        return (one[0] + 1, one[1])
    if other == (one[1], one[1]):
        return (one[0], one[1] - 1)
    return one


def narrowed(sign, left, right):
    """What the left and the right stretch are met with where the sign can hold between them."""
    # That it can hold makes these stretches: none of them has its low above its high.
    if sign == "<":
        return (left[0], right[1] - 1), (left[0] + 1, right[1])
    if sign == "<=":
        return (left[0], right[1]), (left[0], right[1])
    if sign == "=":
        return right, left
    return without(left, right), without(right, left)


def kept(condition, known):
    """What is known where the condition holds; None where it cannot hold."""
    sign, left, right = condition
    of_left = reach(left, known)
    of_right = reach(right, known)
    if of_left is None or of_right is None or not can_hold(sign, of_left, of_right):
        return None
    for_left, for_right = narrowed(sign, of_left, of_right)
    found = dict(known)
    for side, stretch in ((left, for_left), (right, for_right)):
        if isinstance(side, str):
            # Both sides may be the same name: so the right one is met with what is left by now.
            found[side] = met(found[side], stretch)
            if found[side] is None:
                return None
    return found


def contrary(condition):
    """The condition that holds where this one does not."""
    sign, left, right = condition
    if sign == "<":
        return ("<=", right, left)
    if sign == "<=":
        return ("<", right, left)
    return ("!=" if sign == "=" else "=", left, right)
