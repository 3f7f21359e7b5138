"""The ways on from a row: boundwatch.looking.behind, point 13."""

import copy
import unittest

from boundwatch.looking import behind
from boundwatch.programs import Program

TOP = 1000000
ALL = (-TOP, TOP)
GREAT = ("+", TOP, 1)
LENGTHS = {"s": 4, "t": 1}


class BehindTest(unittest.TestCase):
    KNOWN = {"a": (1, 5), "b": (-3, 9), "c": (0, 0)}
    SHELVES = {"s": (10, 20), "t": (0, 0)}

    def ways(self, row, known=None, shelves=None, at=1):
        """The ways on from the row, which stands at that place; what is handed in stays."""
        known = dict(self.KNOWN if known is None else known)
        shelves = dict(self.SHELVES if shelves is None else shelves)
        program = Program(LENGTHS, [("stop",)] * at + [row] + [("stop",)] * 3)
        before = copy.deepcopy((known, shelves, program.rows, program.shelves))
        told = behind(program, at, known, shelves)
        self.assertEqual((known, shelves, program.rows, program.shelves), before)
        self.check_own(told, known, shelves)
        return told

    def check_own(self, told, known, shelves):
        self.assertIs(type(told), list)
        dicts = [known, shelves]
        for way in told:
            self.assertIs(type(way), tuple)
            self.assertEqual(len(way), 3)
            for one in way[1:]:
                self.assertIs(type(one), dict)
                self.assertTrue(all(one is not other for other in dicts))
                dicts.append(one)

    def check(self, row, told, known=None, shelves=None):
        """told: tuples of a goal, what else is known of names, what else is known of shelves."""
        known = self.KNOWN if known is None else known
        shelves = self.SHELVES if shelves is None else shelves
        whole = [(goal, {**known, **names}, {**shelves, **stock}) for goal, names, stock in told]
        with self.subTest(row=row, known=known, shelves=shelves):
            self.assertEqual(self.ways(row, known, shelves), whole)


class PlainRowsTest(BehindTest):
    def test_set(self):
        self.check(("set", "a", 7), [(2, {"a": (7, 7)}, {})])
        self.check(("set", "a", "b"), [(2, {"a": (-3, 9)}, {})])
        self.check(("set", "a", ("+", "a", "b")), [(2, {"a": (-2, 14)}, {})])
        self.check(("set", "c", ("rest", "a", 10)), [(2, {"c": (1, 5)}, {})])

    def test_set_cut_and_none(self):
        self.check(("set", "c", ("+", "a", TOP - 3)), [(2, {"c": (TOP - 2, TOP)}, {})])
        self.check(("set", "c", ("+", "a", TOP)), [])
        self.check(("set", "c", GREAT), [])
        self.check(("set", "c", ("*", 0, GREAT)), [])

    def test_take(self):
        self.check(("take", "a", -4, 8), [(2, {"a": (-4, 8)}, {})])
        self.check(("take", "c", 3, 3), [(2, {"c": (3, 3)}, {})])
        self.check(("take", "a", -TOP, TOP), [(2, {"a": ALL}, {})])

    def test_jump(self):
        for goal in (0, 1, 2, 3, 4, 5):
            self.check(("jump", goal), [(goal, {}, {})])

    def test_stop(self):
        self.check(("stop",), [])

    def test_the_last_row_goes_on_to_the_place_behind_all_rows(self):
        program = Program(LENGTHS, [("set", "a", 1)])
        self.assertEqual(behind(program, 0, self.KNOWN, self.SHELVES), [(1, {**self.KNOWN, "a": (1, 1)}, self.SHELVES)])

    def test_no_way_from_the_place_behind_all_rows(self):
        for rows in ([], [("set", "a", 1)], [("stop",), ("jump", 0)]):
            self.assertEqual(behind(Program(LENGTHS, rows), len(rows), self.KNOWN, self.SHELVES), [])

    def test_no_way_from_a_row_that_is_none(self):
        # A number below nought would be counted from the end of a list: it must not tell the ways from the last rows.
        for rows in ([], [("stop",)], [("set", "a", 1), ("jump", 0)], [("when", ("<", "a", 3), 0), ("put", "s", 0, 1)]):
            program = Program(LENGTHS, rows)
            for at in (-1, -2, -3, -5, -60, len(rows) + 1, len(rows) + 2, 61, 70):
                with self.subTest(rows=rows, at=at):
                    told = behind(program, at, self.KNOWN, self.SHELVES)
                    self.assertIs(type(told), list)
                    self.assertEqual(told, [])
                    self.assertEqual(behind(program, at, {}, {}), [])

    def test_stretches_beyond_the_limit_raise_nothing(self):
        known, shelves = {"a": (-TOP - 5, TOP + 5)}, {"s": (0, TOP + 5), "t": (0, 0)}
        rows = [("set", "b", ("*", "a", "a")), ("take", "b", 0, 1), ("get", "b", "s", "a"), ("put", "s", "a", "a"),
                ("when", ("<", "a", TOP), 0), ("when", ("!=", "a", "a"), 0), ("jump", 0), ("stop",)]
        program = Program(LENGTHS, rows)
        for at in range(len(rows)):
            with self.subTest(at=at):
                self.assertIs(type(behind(program, at, known, shelves)), list)


class GetTest(BehindTest):
    def test_number_as_index(self):
        for index in (0, 1, 3):
            self.check(("get", "c", "s", index), [(2, {"c": (10, 20)}, {})])
        for index in (-1, 4, TOP, -TOP):
            self.check(("get", "c", "s", index), [])
        self.check(("get", "c", "t", 0), [(2, {"c": (0, 0)}, {})])
        self.check(("get", "c", "t", 1), [])

    def test_name_as_index_has_what_is_left(self):
        self.check(("get", "c", "s", "a"), [(2, {"c": (10, 20), "a": (1, 3)}, {})])
        self.check(("get", "c", "s", "b"), [(2, {"c": (10, 20), "b": (0, 3)}, {})])
        self.check(("get", "c", "t", "b"), [(2, {"c": (0, 0), "b": (0, 0)}, {})])
        self.check(("get", "c", "t", "a"), [])
        for stretch, left in (((0, 3), (0, 3)), ((3, 3), (3, 3)), ((3, 4), (3, 3)), ((4, 4), None), ((-1, 0), (0, 0)),
                              ((-2, -1), None), (ALL, (0, 3)), ((1, 2), (1, 2))):
            told = [] if left is None else [(2, {"c": (10, 20), "i": left}, {})]
            self.check(("get", "c", "s", "i"), told, {**self.KNOWN, "i": stretch})

    def test_the_name_that_is_its_index_has_the_stretch_of_the_shelf(self):
        self.check(("get", "a", "s", "a"), [(2, {"a": (10, 20)}, {})])

    def test_expression_as_index_leaves_names_as_they_are(self):
        self.check(("get", "c", "s", ("+", "a", 0)), [(2, {"c": (10, 20)}, {})])
        self.check(("get", "c", "s", ("+", "b", 12)), [])
        self.check(("get", "c", "s", ("-", "b", 9)), [(2, {"c": (10, 20)}, {})])
        self.check(("get", "a", "s", ("+", "a", 2)), [(2, {"a": (10, 20)}, {})])
        self.check(("get", "a", "s", ("+", "a", 3)), [])
        self.check(("get", "c", "s", GREAT), [])


class PutTest(BehindTest):
    def test_joined_with_the_shelf(self):
        self.check(("put", "s", 0, 15), [(2, {}, {})])
        self.check(("put", "s", 3, 25), [(2, {}, {"s": (10, 25)})])
        self.check(("put", "s", 1, -5), [(2, {}, {"s": (-5, 20)})])
        self.check(("put", "s", 1, "b"), [(2, {}, {"s": (-3, 20)})])
        self.check(("put", "t", 0, "a"), [(2, {}, {"t": (0, 5)})])

    def test_a_shelf_of_one_place_is_joined_too(self):
        self.check(("put", "t", 0, 7), [(2, {}, {"t": (0, 7)})])

    def test_off_the_shelf(self):
        for index in (-1, 4, TOP, -TOP, ("+", "a", 3), GREAT):
            self.check(("put", "s", index, 5), [])
        self.check(("put", "t", "a", 5), [])

    def test_nothing_put(self):
        self.check(("put", "s", 0, GREAT), [])
        self.check(("put", "s", 0, ("+", "a", TOP)), [])
        self.check(("put", "s", "a", ("*", 0, GREAT)), [])

    def test_name_as_index_has_what_is_left(self):
        self.check(("put", "s", "b", 15), [(2, {"b": (0, 3)}, {})])
        self.check(("put", "s", "a", 25), [(2, {"a": (1, 3)}, {"s": (10, 25)})])
        self.check(("put", "s", ("+", "b", 0), 25), [(2, {}, {"s": (10, 25)})])

    def test_what_is_put_goes_by_what_is_left_of_the_index(self):
        self.check(("put", "s", "b", "b"), [(2, {"b": (0, 3)}, {"s": (0, 20)})])
        self.check(("put", "s", "a", ("*", "a", 10)), [(2, {"a": (1, 3)}, {"s": (10, 30)})])
        known = {"i": (0, 9)}
        self.check(("put", "s", "i", ("+", "i", TOP - 3)), [(2, {"i": (0, 3)}, {"s": (10, TOP)})], known)
        known = {"i": (2, TOP)}
        self.check(("put", "s", "i", ("+", "i", TOP - 1)), [], known)

    def test_cut(self):
        self.check(("put", "s", 0, ("+", "a", TOP - 3)), [(2, {}, {"s": (10, TOP)})])


class WhenTest(BehindTest):
    def test_both_ways_goal_first(self):
        self.check(("when", ("<", "a", 4), 4), [(4, {"a": (1, 3)}, {}), (2, {"a": (4, 5)}, {})])
        self.check(("when", ("<=", "a", 4), 0), [(0, {"a": (1, 4)}, {}), (2, {"a": (5, 5)}, {})])
        self.check(("when", ("=", "a", 5), 4), [(4, {"a": (5, 5)}, {}), (2, {"a": (1, 4)}, {})])
        self.check(("when", ("!=", "a", 1), 1), [(1, {"a": (2, 5)}, {}), (2, {"a": (1, 1)}, {})])
        self.check(("when", ("=", "a", 3), 5), [(5, {"a": (3, 3)}, {}), (2, {}, {})])
        self.check(("when", ("<", "b", "a"), 3), [(3, {"b": (-3, 4)}, {}), (2, {"b": (1, 9)}, {})])

    def test_the_goal_alone(self):
        self.check(("when", ("<", "a", 6), 4), [(4, {}, {})])
        self.check(("when", ("!=", "a", 0), 4), [(4, {}, {})])
        self.check(("when", ("<=", 0, 0), 4), [(4, {}, {})])

    def test_the_next_row_alone(self):
        self.check(("when", ("<", "a", 1), 4), [(2, {}, {})])
        self.check(("when", ("=", "a", 0), 4), [(2, {}, {})])
        self.check(("when", ("<", 0, 0), 4), [(2, {}, {})])

    def test_no_way(self):
        for sign in ("<", "<=", "=", "!="):
            self.check(("when", (sign, "a", GREAT), 4), [])
            self.check(("when", (sign, GREAT, "a"), 2), [])
            self.check(("when", (sign, ("+", "a", TOP), 5), 4), [])

    def test_the_next_row_as_goal_is_given_twice(self):
        self.check(("when", ("<", "a", 4), 2), [(2, {"a": (1, 3)}, {}), (2, {"a": (4, 5)}, {})])
        self.check(("when", ("<", "a", 6), 2), [(2, {}, {})])
        self.check(("when", ("=", "a", 3), 2), [(2, {"a": (3, 3)}, {}), (2, {}, {})])

    def test_the_same_name_on_both_sides(self):
        self.check(("when", ("<", "a", "a"), 4), [(4, {"a": (2, 4)}, {}), (2, {}, {})])
        self.check(("when", ("<=", "a", "a"), 4), [(4, {}, {}), (2, {"a": (2, 4)}, {})])
        self.check(("when", ("!=", "c", "c"), 4), [(2, {}, {})])

    def test_at_the_last_row(self):
        program = Program(LENGTHS, [("when", ("<", "a", 4), 0)])
        told = behind(program, 0, {"a": (1, 5)}, self.SHELVES)
        self.assertEqual(told, [(0, {"a": (1, 3)}, self.SHELVES), (1, {"a": (4, 5)}, self.SHELVES)])


class GivenTest(BehindTest):
    ROWS = [
        ("set", "a", 1), ("take", "a", 1, 2), ("get", "a", "s", "c"), ("get", "c", "s", 0), ("put", "s", "a", "b"),
        ("put", "s", 1, 15), ("when", ("<", "a", 4), 2), ("when", ("<", 0, 1), 0), ("when", ("<", 1, 0), 0),
        ("when", ("=", ("+", "a", 0), 3), 4), ("jump", 3), ("jump", 0),
    ]

    def test_names_and_shelves_beyond_those_asked_for_stay(self):
        known = {**self.KNOWN, "more": (70, 80), "s": (4, 4)}
        shelves = {**self.SHELVES, "other": (-9, 90), "a": (6, 6)}
        for row in self.ROWS:
            for _, names, stock in self.ways(row, known, shelves):
                self.assertEqual((names["more"], names["s"]), ((70, 80), (4, 4)))
                self.assertEqual((stock["other"], stock["a"]), ((-9, 90), (6, 6)))

    def test_what_is_given_back_is_the_callers_own(self):
        for row in self.ROWS:
            told = self.ways(row)
            before = copy.deepcopy(told)
            for _, names, stock in told:
                names["a"] = names["more"] = stock["s"] = stock["more"] = (70, 70)
            told.clear()
            self.assertEqual(self.ways(row), before)

    def test_what_is_handed_in_may_change_later(self):
        for row in self.ROWS:
            known, shelves = dict(self.KNOWN), dict(self.SHELVES)
            told = behind(Program(LENGTHS, [row] + [("stop",)] * 4), 0, known, shelves)
            before = copy.deepcopy(told)
            known["a"] = shelves["s"] = (70, 70)
            known.pop("b")
            shelves.clear()
            self.assertEqual(told, before)

    def test_a_name_and_a_shelf_called_the_same(self):
        program = Program({"a": 3}, [("get", "a", "a", "a"), ("put", "a", "a", "a")])
        self.assertEqual(behind(program, 0, {"a": (-5, 2)}, {"a": (7, 8)}), [(1, {"a": (7, 8)}, {"a": (7, 8)})])
        self.assertEqual(behind(program, 1, {"a": (-5, 1)}, {"a": (7, 8)}), [(2, {"a": (0, 1)}, {"a": (0, 8)})])


if __name__ == "__main__":
    unittest.main()
