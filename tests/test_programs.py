"""Programs that stand: boundwatch.programs, points 4 to 6."""

import copy
import unittest

from boundwatch.programs import Program

TOP = 1000000
STOPS = [("stop",)]

EACH_ROW = [
    ("set", "a", ("+", "b", 3)),
    ("take", "c", -5, 9),
    ("get", "d", "shelf", ("rest", "e", 4)),
    ("put", "shelf", "f", ("*", "g", "a")),
    ("when", ("<=", "h", ("-", "i", 20)), 0),
    ("jump", 6),
    ("stop",),
]


def around(*numbers):
    """The marks of a program in which these numbers are written, nought aside."""
    near = {number + more for number in (0, *numbers) for more in (-1, 0, 1)}
    return sorted(number for number in near if -TOP <= number <= TOP)


class FieldsTest(unittest.TestCase):
    def test_each_row_stands(self):
        for row in EACH_ROW:
            with self.subTest(row=row):
                program = Program({"shelf": 3}, STOPS * 6 + [row])
                self.assertEqual(program.rows, STOPS * 6 + [row])
        self.assertEqual(Program({"shelf": 3}, EACH_ROW).rows, EACH_ROW)

    def test_edges_that_stand(self):
        for row in (
            ("set", "abcdefgh", TOP), ("set", "z", -TOP), ("set", "rest", "set"),
            ("take", "a", 4, 4), ("take", "a", -TOP, TOP), ("take", "a", 0, 1),
            ("set", "a", ("rest", "a", 1)), ("set", "a", ("rest", -5, TOP)),
            ("set", "a", ("+", 1, ("+", 1, ("+", 1, ("+", 1, ("*", "a", "b")))))),
            ("set", "a", ("+", ("+", ("+", ("+", ("*", "a", "b"), 1), 1), 1), 1)),
            ("set", "a", ("rest", ("rest", ("rest", ("rest", ("rest", "a", 9), 8), 7), 6), 5)),
            ("jump", 0), ("jump", 1), ("when", ("!=", 0, 0), 0), ("when", ("=", "a", "a"), 1),
            ("when", ("<", 0, 0), 1), ("when", ("<=", 0, 0), 1),
            ("get", "a", "s", 0), ("get", "s", "s", "s"), ("put", "s", -1, "s"), ("put", "s", TOP, 0),
        ):
            with self.subTest(row=row):
                self.assertEqual(Program({"s": 1}, [row]).rows, [row])

    def test_kinds_of_fields(self):
        program = Program({"shelf": 3}, EACH_ROW)
        self.assertIs(type(program.shelves), dict)
        for told in (program.rows, program.names, program.marks, program.heads):
            self.assertIs(type(told), list)

    def test_shelves(self):
        for shelves in ({}, {"s": 1}, {"s": 100}, {"abcdefgh": 7, "a": 1, "z": 2, "set": 50}):
            self.assertEqual(Program(shelves, STOPS).shelves, shelves)

    def test_no_rows_and_no_shelves(self):
        program = Program({}, [])
        self.assertEqual((program.shelves, program.rows), ({}, []))
        self.assertEqual((program.names, program.marks, program.heads), ([], [-1, 0, 1], []))

    def test_what_is_handed_in_stays(self):
        shelves, rows = {"shelf": 3, "other": 9}, list(EACH_ROW)
        Program(shelves, rows)
        self.assertEqual(list(shelves.items()), [("shelf", 3), ("other", 9)])
        self.assertEqual(rows, EACH_ROW)

    def test_what_is_handed_in_may_change_later(self):
        shelves, rows = {"shelf": 3}, list(EACH_ROW)
        program = Program(shelves, rows)
        told = copy.deepcopy((program.names, program.marks, program.heads))
        shelves["more"] = 50
        shelves["shelf"] = 60
        rows[0] = ("stop",)
        del rows[3:]
        self.assertEqual(program.shelves, {"shelf": 3})
        self.assertEqual(program.rows, EACH_ROW)
        self.assertEqual((program.names, program.marks, program.heads), told)

    def test_two_programs_share_nothing(self):
        first, second = Program({"s": 2}, EACH_ROW[:2]), Program({"s": 2}, EACH_ROW[:2])
        for told in (first.rows, first.names, first.marks, first.heads):
            told.append(17)
        first.shelves["t"] = 5
        self.assertEqual((second.shelves, second.rows), ({"s": 2}, EACH_ROW[:2]))
        self.assertEqual((second.names, second.heads), (["a", "b", "c"], []))
        self.assertEqual(second.marks, around(2, 3, -5, 9))


class NamesTest(unittest.TestCase):
    def check(self, rows, names, shelves=None):
        with self.subTest(rows=rows):
            self.assertEqual(Program({"s": 3} if shelves is None else shelves, rows).names, names)

    def test_each_row(self):
        self.check([("set", "b", 1)], ["b"])
        self.check([("set", "b", "a")], ["a", "b"])
        self.check([("take", "b", 1, 2)], ["b"])
        self.check([("get", "b", "s", 0)], ["b"])
        self.check([("get", "b", "s", "a")], ["a", "b"])
        self.check([("put", "s", "a", 0)], ["a"])
        self.check([("put", "s", 0, "a")], ["a"])
        self.check([("when", ("<", "a", 0), 0)], ["a"])
        self.check([("when", ("<", 0, "a"), 0)], ["a"])
        self.check([("jump", 0)], [])
        self.check([("stop",)], [])

    def test_within_expressions(self):
        deep = ("+", ("-", "d", ("rest", ("*", "c", "b"), 7)), "a")
        self.check([("set", "e", deep)], ["a", "b", "c", "d", "e"])
        self.check([("get", "e", "s", deep)], ["a", "b", "c", "d", "e"])
        self.check([("put", "s", deep, ("+", "f", 1))], ["a", "b", "c", "d", "f"])
        self.check([("when", ("=", ("+", "g", "h"), deep), 0)], ["a", "b", "c", "d", "g", "h"])

    def test_as_sorted_has_them_and_each_once(self):
        rows = [("set", "zz", "z"), ("set", "z", "zz"), ("set", "aa", "b"), ("take", "b", 0, 0)]
        self.check(rows, ["aa", "b", "z", "zz"])
        self.check([("set", "a", ("+", "a", "a"))] * 3, ["a"])

    def test_shelves_are_no_names(self):
        self.check([("get", "a", "s", 0), ("put", "s", 0, 0)], ["a"])
        self.check([("get", "a", "t", 0)], ["a"], {"s": 1, "t": 1})

    def test_a_shelf_called_as_a_name_is(self):
        self.check([("put", "s", 0, 0)], [])
        self.check([("put", "s", "s", 0)], ["s"])
        self.check([("get", "s", "s", 0)], ["s"])
        program = Program({"a": 2}, [("set", "a", 1), ("put", "a", "a", "a")])
        self.assertEqual((program.names, program.shelves), (["a"], {"a": 2}))

    def test_words_and_signs_are_no_names(self):
        self.check([("set", "set", ("rest", "rest", 4)), ("take", "take", 0, 1)], ["rest", "set", "take"])
        self.check([("set", "a", ("rest", "b", 4)), ("jump", 0)], ["a", "b"])

    def test_rows_that_are_never_come_to_count(self):
        self.check([("stop",), ("set", "a", "b")], ["a", "b"])


class MarksTest(unittest.TestCase):
    def check(self, rows, marks, shelves=None):
        with self.subTest(rows=rows, shelves=shelves):
            self.assertEqual(Program({} if shelves is None else shelves, rows).marks, marks)

    def test_nought(self):
        self.check([], [-1, 0, 1])
        self.check([("stop",)], [-1, 0, 1])
        self.check([("set", "a", "b")], [-1, 0, 1])

    def test_lengths(self):
        self.check([], [-1, 0, 1, 6, 7, 8], {"s": 7})
        self.check([], [-1, 0, 1, 2, 6, 7, 8, 99, 100, 101], {"s": 7, "t": 100, "u": 1})

    def test_each_row(self):
        self.check([("set", "a", 10)], [-1, 0, 1, 9, 10, 11])
        self.check([("set", "a", -10)], [-11, -10, -9, -1, 0, 1])
        self.check([("take", "a", 10, 20)], [-1, 0, 1, 9, 10, 11, 19, 20, 21])
        self.check([("get", "a", "s", 20)], around(2, 20), {"s": 2})
        self.check([("put", "s", 20, 30)], around(2, 20, 30), {"s": 2})
        self.check([("when", ("<", 20, 30), 0)], around(20, 30))

    def test_within_expressions(self):
        deep = ("+", ("-", 10, ("rest", ("*", 20, -30), 40)), 50)
        self.check([("set", "a", deep)], around(10, 20, -30, 40, 50))
        self.check([("get", "a", "s", deep)], around(3, 10, 20, -30, 40, 50), {"s": 3})
        self.check([("put", "s", deep, 60)], around(3, 10, 20, -30, 40, 50, 60), {"s": 3})
        self.check([("put", "s", 60, deep)], around(3, 10, 20, -30, 40, 50, 60), {"s": 3})
        self.check([("when", ("=", deep, ("rest", "a", 70)), 0)], around(10, 20, -30, 40, 50, 70))

    def test_by(self):
        self.check([("set", "a", ("rest", "a", 5))], [-1, 0, 1, 4, 5, 6])
        self.check([("set", "a", ("rest", 20, 5))], [-1, 0, 1, 4, 5, 6, 19, 20, 21])

    def test_goals_are_none(self):
        self.check([("stop",)] * 8 + [("jump", 9), ("jump", 5)], [-1, 0, 1])
        self.check([("stop",)] * 8 + [("when", ("<", "a", "b"), 9)], [-1, 0, 1])

    def test_numbers_worked_out_are_none(self):
        self.check([("set", "a", ("*", 10, 20))], around(10, 20))

    def test_nothing_beyond_the_limit(self):
        self.check([("set", "a", TOP)], [-1, 0, 1, TOP - 1, TOP])
        self.check([("set", "a", -TOP)], [-TOP, 1 - TOP, -1, 0, 1])
        self.check([("take", "a", -TOP, TOP)], [-TOP, 1 - TOP, -1, 0, 1, TOP - 1, TOP])
        self.check([("set", "a", TOP - 1)], [-1, 0, 1, TOP - 2, TOP - 1, TOP])
        self.check([("set", "a", 1 - TOP)], [-TOP, 1 - TOP, 2 - TOP, -1, 0, 1])

    def test_rising_and_each_once(self):
        rows = [("set", "a", 7), ("set", "b", -7), ("set", "c", 7), ("take", "d", 5, 6)]
        self.check(rows, [-8, -7, -6, -1, 0, 1, 4, 5, 6, 7, 8])
        self.check([("set", "a", 2)], [-1, 0, 1, 2, 3])

    def test_rows_that_are_never_come_to_count(self):
        self.check([("stop",), ("set", "a", 10)], [-1, 0, 1, 9, 10, 11])


class HeadsTest(unittest.TestCase):
    def check(self, rows, heads):
        with self.subTest(rows=rows):
            self.assertEqual(Program({}, rows).heads, heads)

    def test_goals_of_rows_behind(self):
        self.check([("stop",), ("jump", 0)], [0])
        self.check([("stop",), ("when", ("<", 0, 0), 0)], [0])
        self.check([("stop",), ("stop",), ("stop",), ("jump", 1)], [1])

    def test_goals_of_the_row_itself(self):
        self.check([("jump", 0)], [0])
        self.check([("stop",), ("jump", 1)], [1])
        self.check([("stop",), ("when", ("<", 0, 0), 1)], [1])

    def test_forward_goals_are_none(self):
        self.check([("jump", 1), ("stop",)], [])
        self.check([("when", ("<", 0, 0), 2), ("stop",), ("stop",)], [])
        self.check([("stop",), ("jump", 2), ("stop",)], [])

    def test_forward_and_backward_goals_together(self):
        self.check([("jump", 1), ("stop",), ("jump", 1)], [1])
        self.check([("jump", 2), ("jump", 0), ("stop",)], [0])

    def test_the_place_behind_all_rows_is_none(self):
        self.check([("jump", 1)], [])
        self.check([("when", ("<", 0, 0), 1)], [])
        self.check([("stop",), ("stop",), ("jump", 3)], [])

    def test_as_sorted_has_them_and_each_once(self):
        rows = [("stop",)] * 12 + [("jump", 11), ("jump", 3), ("when", ("=", 0, 0), 11), ("jump", 0), ("jump", 15)]
        self.check(rows, [0, 3, 11, 15])

    def test_rows_that_are_never_come_to_count(self):
        self.check([("stop",), ("stop",), ("jump", 1)], [1])


if __name__ == "__main__":
    unittest.main()
