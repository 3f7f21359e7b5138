"""Programs that are refused: boundwatch.programs, points 1 to 5."""

import copy
import unittest

from boundwatch.errors import BadRow, BadShelves, BoundError
from boundwatch.programs import Program

TOP = 1000000
STOP = ("stop",)


def nested(sign, deepest, other, deep):
    """An expression so deep, with the sign on each level above the deepest, on its left side."""
    expression = deepest
    for _ in range(deep - 1):
        expression = (sign, expression, other)
    return expression


def nested_right(sign, deepest, deep):
    expression = deepest
    for _ in range(deep - 1):
        expression = (sign, 1, expression)
    return expression


NO_NAMES = [
    "", "abcdefghi", "A", "aB", "Ab", "a1", "1", "a_", "_", "a b", " a", "a ", "a-b", "a\n",
    "\u00e9", "\u00df", "a\u00e9", "\u0430", "\uff41", "`", "{",
    0, 5, True, None, ("a",), ["a"], ("+", 1, 2),
]
NO_NUMBERS = [True, False, None, TOP + 1, -TOP - 1, 10 ** 30, "a", "5", ("+", 1, 1), (5,), [5]]
NO_EXPRESSIONS = [
    True, False, None, TOP + 1, -TOP - 1, 10 ** 30,
    "", "abcdefghi", "A", "a1", "\u00e9",
    (), ("+",), ("+", 1), ("+", 1, 2, 3), (1, 2, 3), ("a", "b"), (5,), ("a",),
    ["+", 1, 2], [], {}, ("+", 1, ["+", 1, 2]), ("*", ["a"], 1),
    ("/", 1, 2), ("", 1, 2), ("++", 1, 2), ("<", 1, 2), ("set", "a", 1), (None, 1, 2), (["+"], 1, 2), ("Rest", 1, 2),
    ("+", True, 1), ("+", 1, False), ("-", None, 1), ("-", 1, None), ("*", TOP + 1, 1), ("*", 1, -TOP - 1),
    ("+", "A", 1), ("+", 1, "A"),
    ("rest", 5), ("rest", 5, 2, 1), ("rest", 5, 0), ("rest", 5, -1), ("rest", 5, -TOP), ("rest", 5, TOP + 1),
    ("rest", 5, "a"), ("rest", 5, ("+", 1, 1)), ("rest", 5, True), ("rest", 5, None), ("rest", True, 5),
    ("rest", TOP + 1, 5), ("rest", "A", 5),
    nested("+", "a", 1, 7), nested("-", 5, 1, 7), nested("*", 5, 1, 8), nested("rest", "a", 5, 7),
    nested_right("+", "a", 7), nested_right("*", 5, 7), nested_right("-", 5, 8), nested("+", 1, 1, 300),
    ("+", nested("+", 1, 1, 6), 1), ("+", 1, nested("+", 1, 1, 6)),
    nested("+", ("+", 1, True), 1, 5), nested("+", ("rest", 1, 0), 1, 5), nested_right("+", ["+", 1, 1], 5),
]
NO_CONDITIONS = [
    None, True, 1, "a", "<", (), ("<",), ("<", 0), ("<", 0, 1, 2), ["<", 0, 1], (0, 1), ("+", 0, 1), ("rest", 0, 1),
    (">", 0, 1), (">=", 0, 1), ("==", 0, 1), ("<>", 0, 1), ("", 0, 1), ("< ", 0, 1), (1, 0, 1), (None, 0, 1),
    (["<"], 0, 1), (True, 0, 1), (0, "<", 1),
]
NO_SHELVES = ["t", "S", "", "ss", "a", None, 0, 1, True, ["s"], ("s",), {"s": 3}]


class ShelvesTest(unittest.TestCase):
    def check(self, shelves, rows=()):
        with self.subTest(shelves=shelves):
            before = copy.deepcopy(shelves)
            with self.assertRaises(BadShelves):
                Program(shelves, list(rows))
            self.assertEqual(shelves, before)

    def test_more_than_four(self):
        names = ["a", "b", "c", "d", "e", "f"]
        self.check({name: 3 for name in names[:5]})
        self.check({name: 3 for name in names})
        self.assertEqual(len(Program({name: 3 for name in names[:4]}, []).shelves), 4)

    def test_keys_that_are_no_names(self):
        for key in NO_NAMES:
            if not isinstance(key, list):
                self.check({key: 3})
                self.check({"a": 3, key: 3})

    def test_lengths_that_are_none(self):
        for length in (0, -1, 101, 102, TOP, True, False, None, "5", "", (5,), [5]):
            self.check({"a": length})
            self.check({"a": 5, "b": length})
            self.check({"a": length, "b": 5})

    def test_lengths_at_the_ends_stand(self):
        for length in (1, 2, 99, 100):
            self.assertEqual(Program({"a": length}, []).shelves, {"a": length})

    def test_bad_shelves_go_before_a_bad_row(self):
        for rows in ([None], [STOP, ("jump", 7)], [STOP] * 61):
            self.check({"a": 0}, rows)
            self.check({"A": 1}, rows)
            self.check({name: 1 for name in "abcde"}, rows)

    def test_the_row_is_wrong_where_the_shelves_stand(self):
        with self.assertRaises(BadRow):
            Program({"a": 1}, [None])


class RowsTest(unittest.TestCase):
    def refused(self, rows, at, shelves=None):
        before = copy.deepcopy(rows)
        with self.assertRaises(BadRow) as told:
            Program({"s": 3} if shelves is None else shelves, rows)
        self.assertEqual(told.exception.at, at)
        self.assertIs(type(told.exception.at), int)
        self.assertIsInstance(told.exception, BoundError)
        self.assertEqual(rows, before)

    def check(self, row):
        """The row may not stand, wherever it is tried."""
        with self.subTest(row=row):
            self.refused([row], 0)
            self.refused([STOP, STOP, row, STOP], 2)

    def test_no_tuple(self):
        for row in (None, 5, True, "stop", "", [], ["stop"], ["set", "a", 1], ["jump", 0], {}, {"stop": 1}):
            self.check(row)

    def test_unknown_words(self):
        for word in ("", "sets", "Set", "STOP", "stop ", "goto", "+", "<", None, 0, True, ["stop"], ("stop",)):
            self.check((word,))
            self.check((word, 0))
            self.check((word, "a", 1))
            self.check((word, "a", 0, 1))
        self.check(())

    def test_one_part_more_or_less(self):
        for row in (("set", "a", 1), ("take", "a", 0, 1), ("get", "a", "s", 0), ("put", "s", 0, 0),
                    ("when", ("<", 0, 1), 0), ("jump", 0), ("stop",)):
            self.assertEqual(Program({"s": 3}, [row]).rows, [row])
            self.check(row[:-1])
            self.check(row + (0,))
            self.check(row + (None,))

    def test_names(self):
        for name in NO_NAMES:
            self.check(("set", name, 1))
            self.check(("take", name, 0, 1))
            self.check(("get", name, "s", 0))

    def test_expressions(self):
        for a in NO_EXPRESSIONS:
            self.check(("set", "a", a))
            self.check(("get", "a", "s", a))
            self.check(("put", "s", a, 0))
            self.check(("put", "s", 0, a))
            self.check(("when", ("<", a, 0), 0))
            self.check(("when", ("!=", 0, a), 0))

    def test_take(self):
        for number in NO_NUMBERS:
            self.check(("take", "a", number, TOP))
            self.check(("take", "a", -TOP, number))
            self.check(("take", "a", number, number))
        for low, high in ((1, 0), (0, -1), (TOP, -TOP), (-4, -5)):
            self.check(("take", "a", low, high))

    def test_shelves(self):
        for shelf in NO_SHELVES:
            self.check(("get", "a", shelf, 0))
            self.check(("put", shelf, 0, 0))
        self.refused([("get", "a", "s", 0)], 0, {})
        self.refused([("put", "s", 0, 0)], 0, {"t": 3})

    def test_conditions(self):
        for condition in NO_CONDITIONS:
            self.check(("when", condition, 0))

    def test_goals(self):
        condition = ("<", "a", 5)
        for goal in (-1, -TOP, 5, 6, TOP, True, False, None, "0", "a", (0,), [0], ("+", 0, 0)):
            self.check(("jump", goal))
            self.check(("when", condition, goal))
        for many in (1, 2, 3, 60):
            for row in (("jump", many), ("when", condition, many), ("jump", 0), ("when", condition, 0)):
                self.assertEqual(Program({}, [STOP] * (many - 1) + [row]).rows[-1], row)
            for row in (("jump", many + 1), ("when", condition, many + 1)):
                self.refused([STOP] * (many - 1) + [row], many - 1)

    def test_the_first_of_two_wrong_rows(self):
        self.refused([STOP, None, STOP, ("jump", 70)], 1)
        self.refused([STOP, ("jump", 70), STOP, None], 1)
        self.refused([("set", "a", True), ("set", "a", True)], 0)

    def test_sixty_rows_stand(self):
        self.assertEqual(Program({}, [STOP] * 60).rows, [STOP] * 60)
        self.assertEqual(Program({}, [STOP] * 59 + [("jump", 60)]).rows[59], ("jump", 60))

    def test_the_row_60(self):
        for many in (61, 62, 70, 200):
            self.refused([STOP] * many, 60)
        self.refused([STOP] * 60 + [None], 60)
        self.refused([STOP] * 61 + [None], 60)

    def test_a_wrong_row_ahead_of_the_row_60(self):
        for at in (0, 1, 30, 59):
            rows = [STOP] * 61
            rows[at] = ("set", "a", True)
            self.refused(rows, at)

    def test_goals_of_more_than_sixty_rows(self):
        # A goal goes by how many rows there are, also where these are too many.
        self.refused([("jump", 61)] + [STOP] * 60, 60)
        self.refused([("jump", 62)] + [STOP] * 60, 0)

    def test_deep_expressions_at_the_edge(self):
        for sign in ("+", "-", "*", "rest"):
            six = nested(sign, "a", 2, 6)
            self.assertEqual(Program({}, [("set", "a", six)]).rows, [("set", "a", six)])
            self.check(("set", "a", nested(sign, "a", 2, 7)))


if __name__ == "__main__":
    unittest.main()
