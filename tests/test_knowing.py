"""What is known where a condition holds: boundwatch.knowing, points 10 to 12."""

import copy
import unittest

from boundwatch.knowing import contrary, kept, reach

TOP = 1000000
SIGNS = ("<", "<=", "=", "!=")
ALL = (-TOP, TOP)
GREAT = ("+", TOP, 1)


def small_stretches(low, high):
    """All stretches of numbers from low to high."""
    ends = range(low, high + 1)
    return [(one, other) for one in ends for other in ends if one <= other]


def numbers_of(stretch):
    return range(stretch[0], stretch[1] + 1)


def stands(sign, left, right):
    return {"<": left < right, "<=": left <= right, "=": left == right, "!=": left != right}[sign]


def hull(numbers):
    return (min(numbers), max(numbers)) if numbers else None


class ReachTest(unittest.TestCase):
    def check(self, rows, known=None):
        for expression, told in rows:
            with self.subTest(expression=expression):
                found = reach(expression, {} if known is None else known)
                self.assertEqual(found, told)
                self.assertIn(type(found), (tuple, type(None)))

    def test_numbers(self):
        self.check([(number, (number, number)) for number in (0, 1, -7, TOP, -TOP)])

    def test_names(self):
        known = {"a": (1, 5), "abcdefgh": (-3, -3), "rest": ALL, "b": (0, 0)}
        self.check([(name, stretch) for name, stretch in known.items()], known)

    def test_each_sign(self):
        known = {"a": (1, 5), "b": (-3, 2)}
        self.check([
            (("+", "a", "b"), (-2, 7)),
            (("-", "a", "b"), (-1, 8)),
            (("-", "b", "a"), (-8, 1)),
            (("*", "a", "b"), (-15, 10)),
            (("*", "b", "b"), (-6, 9)),
            (("-", "a", "a"), (-4, 4)),
            (("rest", "a", 7), (1, 5)),
            (("rest", "a", 4), (0, 3)),
            (("rest", "b", 7), (0, 6)),
            (("rest", -1, 5), (4, 4)),
        ], known)

    def test_one_within_another(self):
        known = {"a": (1, 5), "b": (-3, 2)}
        self.check([
            (("+", ("*", "a", 2), ("-", "b", 1)), (-2, 11)),
            (("rest", ("+", "a", 10), 6), (0, 5)),
            (("rest", ("+", "a", 10), 20), (11, 15)),
            (("+", 1, ("+", 1, ("+", 1, ("+", 1, ("+", 1, "a"))))), (6, 10)),
            (("+", ("+", ("+", ("+", ("+", "b", 1), 1), 1), 1), 1), (2, 7)),
        ], known)

    def test_at_the_limit(self):
        known = {"a": (0, TOP), "b": (-TOP, 0), "c": ALL}
        self.check([
            (("+", "a", 1), (1, TOP)),
            (("-", "b", 1), (-TOP, -1)),
            (("+", "c", "c"), ALL),
            (("*", "c", "a"), ALL),
            (("+", TOP - 1, 1), (TOP, TOP)),
            (("*", 1000, -1000), (-TOP, -TOP)),
        ], known)

    def test_none_where_nothing_is_reached(self):
        known = {"a": (1, TOP), "b": (0, 3)}
        self.check([
            (GREAT, None),
            (("-", -TOP, 1), None),
            (("*", 101, 9901), None),
            (("+", TOP, "a"), None),
            (("-", "b", ("+", TOP, "a")), None),
            (("*", ("+", TOP, "a"), 0), None),
            (("*", 0, ("+", TOP, "a")), None),
            (("rest", ("+", TOP, "a"), 5), None),
            (("+", 1, ("+", 1, ("rest", ("*", GREAT, 0), 5))), None),
        ], known)

    def test_known_stays(self):
        known = {"a": (1, 5), "more": (2, 3)}
        reach(("+", "a", 1), known)
        reach("a", known)
        self.assertEqual(list(known.items()), [("a", (1, 5)), ("more", (2, 3))])

    def test_by_below_one_raises_nothing(self):
        for by in (0, -1):
            reach(("rest", "a", by), {"a": (1, 5)})

    def test_somewhat_beyond_raises_nothing(self):
        known = {"abcdefghi": (-TOP - 2, TOP + 2)}
        self.check([
            (TOP + 1, (TOP + 1, TOP + 1)),
            ("abcdefghi", (-TOP - 2, TOP + 2)),
            (("+", TOP + 1, TOP + 1), None),
            (("-", TOP + 1, 1), (TOP, TOP)),
            (("*", "abcdefghi", 1), ALL),
            (("rest", 3, TOP + 1), (3, 3)),
            (("+", 1, ("+", 1, ("+", 1, ("+", 1, ("+", 1, ("+", 1, ("+", 1, 1))))))), (8, 8)),
        ], known)


class KeptTest(unittest.TestCase):
    def check(self, condition, known, told):
        with self.subTest(condition=condition, known=known):
            before = copy.deepcopy(known)
            found = kept(condition, known)
            self.assertEqual(found, told)
            self.assertEqual(list(known.items()), list(before.items()))
            if found is not None:
                self.assertIs(type(found), dict)
                self.assertIsNot(found, known)

    def test_two_names_keep_what_can_stand_so(self):
        for sign in SIGNS:
            for one in small_stretches(-1, 3):
                for other in small_stretches(-1, 3):
                    pairs = [(a, b) for a in numbers_of(one) for b in numbers_of(other) if stands(sign, a, b)]
                    told = {"a": hull([a for a, b in pairs]), "b": hull([b for a, b in pairs])} if pairs else None
                    self.check((sign, "a", "b"), {"a": one, "b": other}, told)

    def test_a_name_on_one_side(self):
        for sign in SIGNS:
            for one in small_stretches(-2, 2):
                for number in range(-3, 4):
                    left = hull([a for a in numbers_of(one) if stands(sign, a, number)])
                    self.check((sign, "a", number), {"a": one}, left and {"a": left})
                    right = hull([a for a in numbers_of(one) if stands(sign, number, a)])
                    self.check((sign, number, "a"), {"a": one}, right and {"a": right})

    def test_less(self):
        known = {"a": (0, 9), "b": (4, 6)}
        self.check(("<", "a", "b"), known, {"a": (0, 5), "b": (4, 6)})
        self.check(("<", "b", "a"), known, {"a": (5, 9), "b": (4, 6)})
        self.check(("<", "a", 0), known, None)
        self.check(("<", "a", 1), known, {"a": (0, 0), "b": (4, 6)})
        self.check(("<", 9, "a"), known, None)
        self.check(("<", 8, "a"), known, {"a": (9, 9), "b": (4, 6)})

    def test_not_more(self):
        known = {"a": (0, 9), "b": (4, 6)}
        self.check(("<=", "a", "b"), known, {"a": (0, 6), "b": (4, 6)})
        self.check(("<=", "b", "a"), known, {"a": (4, 9), "b": (4, 6)})
        self.check(("<=", "a", -1), known, None)
        self.check(("<=", "a", 0), known, {"a": (0, 0), "b": (4, 6)})
        self.check(("<=", 10, "a"), known, None)
        self.check(("<=", 9, "a"), known, {"a": (9, 9), "b": (4, 6)})

    def test_equal(self):
        known = {"a": (0, 5), "b": (4, 9)}
        self.check(("=", "a", "b"), known, {"a": (4, 5), "b": (4, 5)})
        self.check(("=", "a", 6), known, None)
        self.check(("=", "a", 5), known, {"a": (5, 5), "b": (4, 9)})
        self.check(("=", 3, "b"), known, None)
        self.check(("=", 4, "b"), known, {"a": (0, 5), "b": (4, 4)})

    def test_not_equal(self):
        known = {"a": (0, 5), "b": (5, 5)}
        self.check(("!=", "a", "b"), known, {"a": (0, 4), "b": (5, 5)})
        self.check(("!=", "b", "a"), known, {"a": (0, 4), "b": (5, 5)})
        self.check(("!=", "a", 0), known, {"a": (1, 5), "b": (5, 5)})
        self.check(("!=", "a", 1), known, known)
        self.check(("!=", "a", 4), known, known)
        self.check(("!=", "a", 3), known, known)
        self.check(("!=", "a", 6), known, known)
        self.check(("!=", "a", -1), known, known)
        self.check(("!=", "b", 5), known, None)
        self.check(("!=", 5, "b"), known, None)
        self.check(("!=", 4, "b"), known, known)

    def test_not_equal_where_the_other_side_reaches_more_than_one(self):
        known = {"a": (0, 5), "b": (0, 1), "c": (0, 5), "d": (4, 5)}
        for name in "bcd":
            self.check(("!=", "a", name), known, known)
            self.check(("!=", name, "a"), known, known)

    def test_the_same_name_on_both_sides(self):
        for high, told in ((9, (1, 8)), (2, (1, 1)), (1, None), (0, None)):
            self.check(("<", "a", "a"), {"a": (0, high)}, told and {"a": told})
        for stretch in ((0, 9), (0, 1), (4, 4), ALL):
            self.check(("<=", "a", "a"), {"a": stretch}, {"a": stretch})
            self.check(("=", "a", "a"), {"a": stretch}, {"a": stretch})
        self.check(("!=", "a", "a"), {"a": (0, 1)}, {"a": (0, 1)})
        self.check(("!=", "a", "a"), {"a": (4, 4)}, None)
        self.check(("<", "a", "a"), {"a": ALL}, {"a": (1 - TOP, TOP - 1)})

    def test_sides_that_are_no_bare_names(self):
        known = {"a": (0, 9), "b": (4, 6)}
        self.check(("<", ("+", "a", 0), "b"), known, known)
        self.check(("<", ("+", "a", 3), "b"), known, known)
        self.check(("<", ("+", "a", 5), "b"), known, {"a": (0, 9), "b": (6, 6)})
        self.check(("<", "a", ("-", "b", 2)), known, {"a": (0, 3), "b": (4, 6)})
        self.check(("=", ("*", "a", 1), ("*", "b", 1)), known, known)
        self.check(("<=", ("-", "a", "b"), -7), known, None)
        self.check(("<=", ("-", "a", "b"), -6), known, known)

    def test_a_name_within_the_other_side(self):
        # The right side goes by what was known at first, and not by what the left one has left.
        self.check(("<", "a", ("-", "a", 4)), {"a": (0, 9)}, {"a": (0, 4)})
        self.check(("=", "a", ("+", "a", 4)), {"a": (0, 9)}, {"a": (4, 9)})
        self.check(("<=", ("+", "a", 4), "a"), {"a": (0, 9)}, {"a": (4, 9)})

    def test_numbers_on_both_sides(self):
        known = {"a": (0, 9)}
        for sign in SIGNS:
            for left in range(3):
                for right in range(3):
                    self.check((sign, left, right), known, known if stands(sign, left, right) else None)

    def test_a_side_that_reaches_none(self):
        known = {"a": (0, 9), "b": (TOP, TOP)}
        for sign in SIGNS:
            for great in (GREAT, ("+", "b", 1), ("*", 0, ("-", -2, "b"))):
                self.check((sign, "a", great), known, None)
                self.check((sign, great, "a"), known, None)
                self.check((sign, great, great), known, None)
                self.check((sign, 5, great), known, None)

    def test_at_the_limit(self):
        self.check(("<", "a", "b"), {"a": ALL, "b": ALL}, {"a": (-TOP, TOP - 1), "b": (1 - TOP, TOP)})
        self.check(("<=", "a", "b"), {"a": ALL, "b": ALL}, {"a": ALL, "b": ALL})
        self.check(("<", "a", -TOP), {"a": ALL}, None)
        self.check(("<", TOP, "a"), {"a": ALL}, None)
        self.check(("<=", "a", -TOP), {"a": ALL}, {"a": (-TOP, -TOP)})
        self.check(("<=", TOP, "a"), {"a": ALL}, {"a": (TOP, TOP)})
        self.check(("!=", "a", TOP), {"a": ALL}, {"a": (-TOP, TOP - 1)})
        self.check(("!=", -TOP, "a"), {"a": ALL}, {"a": (1 - TOP, TOP)})

    def test_somewhat_beyond_raises_nothing(self):
        wide = (-TOP - 2, TOP + 2)
        for sign in SIGNS:
            for right in (TOP + 1, -TOP - 3, "b", ("rest", "b", TOP + 1), ("rest", "b", 0)):
                with self.subTest(sign=sign, right=right):
                    self.assertIn(type(kept((sign, "a", right), {"a": wide, "b": wide})), (dict, type(None)))

    def test_other_names_stay(self):
        known = {"c": (7, 8), "a": (0, 9), "b": (4, 6), "d": ALL}
        told = kept(("<", "a", "b"), known)
        self.assertEqual(told, {"c": (7, 8), "a": (0, 5), "b": (4, 6), "d": ALL})

    def test_what_is_given_back_is_the_callers_own(self):
        known = {"a": (0, 9), "b": (4, 6)}
        for sign in SIGNS:
            for condition in ((sign, "a", "b"), (sign, 0, 0), (sign, 0, 1), (sign, "a", "a")):
                told = kept(condition, known)
                if told is not None:
                    told["a"] = told["c"] = (70, 70)
                self.assertEqual(known, {"a": (0, 9), "b": (4, 6)})
        told = kept(("<", "a", "b"), known)
        known["a"] = (1, 1)
        self.assertEqual(told, {"a": (0, 5), "b": (4, 6)})


class ContraryTest(unittest.TestCase):
    def test_each_sign(self):
        for left, right in (("a", "b"), (1, 2), (("+", "a", 1), "a"), ("a", 5), (0, 0)):
            self.assertEqual(contrary(("<", left, right)), ("<=", right, left))
            self.assertEqual(contrary(("<=", left, right)), ("<", right, left))
            self.assertEqual(contrary(("=", left, right)), ("!=", left, right))
            self.assertEqual(contrary(("!=", left, right)), ("=", left, right))

    def test_kind(self):
        for sign in SIGNS:
            self.assertIs(type(contrary((sign, "a", 1))), tuple)

    def test_twice_is_the_same(self):
        for sign in SIGNS:
            condition = (sign, ("*", "a", "b"), 7)
            self.assertEqual(contrary(contrary(condition)), condition)

    def test_one_of_both_holds(self):
        for sign in SIGNS:
            for left in range(-2, 3):
                for right in range(-2, 3):
                    other, one, two = contrary((sign, left, right))
                    self.assertNotEqual(stands(sign, left, right), stands(other, one, two))


if __name__ == "__main__":
    unittest.main()
