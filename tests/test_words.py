"""Expressions and conditions: boundwatch.words, points 2, 3 and 8."""

import copy
import unittest

from boundwatch.words import holds, worth

TOP = 1000000
SIGNS = ("<", "<=", "=", "!=")


def nested(sign, deepest, other, deep):
    """An expression so deep, with the sign on each level above the deepest."""
    expression = deepest
    for _ in range(deep - 1):
        expression = (sign, expression, other)
    return expression


class WorthTest(unittest.TestCase):
    def check(self, rows, held=None):
        for expression, told in rows:
            with self.subTest(expression=expression):
                found = worth(expression, held if held is not None else {})
                self.assertEqual(found, told)
                self.assertIs(type(found), type(told))

    def test_numbers(self):
        self.check([(0, 0), (7, 7), (-7, -7), (TOP, TOP), (-TOP, -TOP)])

    def test_names(self):
        held = {"a": 4, "abcdefgh": -9, "rest": TOP, "zz": 1, "z": 0}
        self.check([("a", 4), ("abcdefgh", -9), ("rest", TOP), ("z", 0)], held)
        self.check([(("+", "a", "abcdefgh"), -5), (("rest", "rest", 7), TOP % 7)], held)

    def test_signs(self):
        held = {"a": 10, "b": -3}
        self.check([
            (("+", "a", "b"), 7),
            (("-", "a", "b"), 13),
            (("-", "b", "a"), -13),
            (("*", "a", "b"), -30),
            (("*", "b", "b"), 9),
            (("*", 0, "b"), 0),
            (("rest", "a", 4), 2),
        ], held)

    def test_rest(self):
        self.check([
            (("rest", 13, 5), 3),
            (("rest", 10, 5), 0),
            (("rest", 0, 5), 0),
            (("rest", 4, 5), 4),
            (("rest", 9, 1), 0),
            (("rest", TOP, TOP), 0),
            (("rest", 3, TOP), 3),
        ])

    def test_rest_of_a_number_below_nought(self):
        self.check([
            (("rest", -1, 5), 4),
            (("rest", -5, 5), 0),
            (("rest", -6, 5), 4),
            (("rest", -9, 1), 0),
            (("rest", ("-", 2, 9), 4), 1),
            (("rest", -1, TOP), TOP - 1),
        ])

    def test_exactly_at_the_limit(self):
        self.check([
            (("+", TOP - 1, 1), TOP),
            (("+", 1 - TOP, -1), -TOP),
            (("-", TOP - 1, -1), TOP),
            (("-", 1 - TOP, 1), -TOP),
            (("*", 1000, 1000), TOP),
            (("*", -1000, 1000), -TOP),
            (("*", 999, 1001), TOP - 1),
            (("*", -999, 1001), 1 - TOP),
        ])

    def test_one_beyond_the_limit(self):
        # 1000001 is 101 * 9901.
        self.check([
            (("+", TOP, 1), None),
            (("+", -TOP, -1), None),
            (("-", TOP, -1), None),
            (("-", -TOP, 1), None),
            (("*", 101, 9901), None),
            (("*", 101, -9901), None),
            (("*", TOP, TOP), None),
        ])

    def test_deep_within_an_expression(self):
        great = ("+", TOP, 1)
        level = ("-", ("+", TOP - 1, 1), TOP)
        self.check([
            (level, 0),
            (("*", level, 5), 0),
            (("-", great, 5), None),
            (("-", 5, great), None),
            (("*", 0, great), None),
            (("*", great, 0), None),
            (("rest", great, 5), None),
            (("+", 1, ("rest", ("*", 0, ("-", -TOP, 1)), 5)), None),
            (("+", 1, ("rest", ("*", 0, ("-", -TOP, 0)), 5)), 1),
            (nested("-", ("*", 101, 9901), 1, 5), None),
            (nested("-", ("*", 999, 1001), 1, 5), TOP - 5),
        ])

    def test_great_goes_by_each_step_and_not_by_the_end(self):
        self.check([
            (("-", ("+", TOP, 1), 1), None),
            (("+", TOP, ("-", 1, 1)), TOP),
        ])

    def test_up_to_six_deep(self):
        for deep in range(1, 7):
            with self.subTest(deep=deep):
                self.assertEqual(worth(nested("+", "a", 1, deep), {"a": 10}), 9 + deep)
                self.assertEqual(worth(nested("-", "a", "b", deep), {"a": 10, "b": 2}), 12 - 2 * deep)
                self.assertEqual(worth(nested("*", 1, 3, deep), {}), 3 ** (deep - 1))
        mixed = ("+", ("rest", ("*", ("-", ("+", "a", 1), "b"), -3), 7), ("*", 2, "b"))
        self.assertEqual(worth(mixed, {"a": 4, "b": 3}), 7)

    def test_both_sides_six_deep(self):
        expression = "a"
        for _ in range(5):
            expression = ("+", expression, expression)
        self.assertEqual(worth(expression, {"a": 3}), 96)

    def test_what_is_handed_in_stays_and_may_change_later(self):
        held = {"a": 4, "b": 5, "more": 6}
        expression = ("*", ("+", "a", "b"), ("rest", "b", 3))
        kept_held, kept_expression = dict(held), copy.deepcopy(expression)
        found = worth(expression, held)
        self.assertEqual(list(held.items()), list(kept_held.items()))
        self.assertEqual(expression, kept_expression)
        held["a"] = 0
        self.assertEqual(found, 18)
        self.assertEqual(worth(expression, held), 10)

    def test_somewhat_beyond_raises_nothing(self):
        self.check([
            (TOP + 1, TOP + 1),
            (("-", TOP + 1, 1), TOP),
            (("rest", TOP + 1, 10), 1),
            (("rest", 3, TOP + 1), 3),
            (nested("+", 0, 1, 9), 8),
            ("abcdefghi", TOP + 2),
        ], {"abcdefghi": TOP + 2})

    def test_by_below_one_raises_nothing(self):
        # The document says nothing of what is given back here.
        for by in (0, -1, -5):
            worth(("rest", 7, by), {})


class HoldsTest(unittest.TestCase):
    def check(self, left, right, told, held=None):
        """told: for each of the signs, whether the condition holds."""
        for sign, truth in zip(SIGNS, told):
            with self.subTest(condition=(sign, left, right)):
                self.assertIs(holds((sign, left, right), held if held is not None else {}), truth)

    def test_equal_sides(self):
        for number in (0, 5, -5, TOP, -TOP):
            self.check(number, number, (False, True, True, False))
        self.check("a", "b", (False, True, True, False), {"a": 5, "b": 5})
        self.check(("+", 2, 3), ("-", 8, 3), (False, True, True, False))

    def test_left_side_below(self):
        for left, right in ((3, 4), (-4, -3), (-1, 0), (0, 1), (-TOP, TOP)):
            self.check(left, right, (True, True, False, True))
        self.check("a", "b", (True, True, False, True), {"a": -5, "b": 5})

    def test_left_side_above(self):
        for left, right in ((4, 3), (-3, -4), (0, -1), (1, 0), (TOP, -TOP)):
            self.check(left, right, (False, False, False, True))
        self.check("abcdefgh", "b", (False, False, False, True), {"abcdefgh": 6, "b": 5})

    def test_expressions_on_both_sides(self):
        held = {"a": 7, "b": 2}
        self.check(("rest", "a", 5), "b", (False, True, True, False), held)
        self.check(("*", "a", "b"), ("+", "a", 8), (True, True, False, True), held)
        self.check(nested("-", "a", 1, 6), nested("+", "b", 0, 6), (False, True, True, False), held)

    def test_exactly_at_the_limit(self):
        self.check(("+", TOP - 1, 1), TOP, (False, True, True, False))
        self.check(-TOP, ("*", -1000, 1000), (False, True, True, False))
        self.check(("-", 1 - TOP, 1), ("-", TOP - 1, -1), (True, True, False, True))

    def test_one_beyond_the_limit_on_either_side(self):
        none = (None, None, None, None)
        for great in (("+", TOP, 1), ("+", -TOP, -1), ("-", TOP, -1), ("-", -TOP, 1),
                      ("*", 101, 9901), ("*", -101, 9901)):
            self.check(great, 3, none)
            self.check(3, great, none)
            self.check(great, great, none)
            self.check(nested("*", great, 0, 4), 0, none)
            self.check(0, ("rest", ("+", 1, ("*", 0, great)), 5), none)

    def test_what_is_handed_in_stays_and_may_change_later(self):
        held = {"a": 4, "b": 5, "more": 6}
        condition = ("<", ("+", "a", 0), "b")
        kept_held, kept_condition = dict(held), copy.deepcopy(condition)
        self.assertIs(holds(condition, held), True)
        self.assertEqual(list(held.items()), list(kept_held.items()))
        self.assertEqual(condition, kept_condition)
        held["a"] = 5
        self.assertIs(holds(condition, held), False)

    def test_somewhat_beyond_raises_nothing(self):
        self.check(TOP + 1, TOP, (False, False, False, True))
        self.check("abcdefghi", nested("+", 0, 1, 9), (True, True, False, True), {"abcdefghi": 3})


if __name__ == "__main__":
    unittest.main()
