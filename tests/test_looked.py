"""What is told of a whole program: looked, index_told and ways_told, points 14 and 15."""

import copy
import unittest

from boundwatch.looking import index_told, looked, ways_told
from boundwatch.programs import Program

TOP = 1000000
ALL = (-TOP, TOP)
GREAT = ("+", TOP, 1)
STOP = ("stop",)


class LookedTest(unittest.TestCase):
    def check(self, rows, told, shelves=None):
        """told: for each row and the place behind all rows None or what is known of names and shelves."""
        program = Program({} if shelves is None else shelves, rows)
        found = looked(program)
        self.assertIs(type(found), list)
        self.assertEqual(len(found), len(rows) + 1)
        for at, (one, other) in enumerate(zip(found, told, strict=True)):
            with self.subTest(at=at):
                self.assertEqual(one, other)
                self.assertIn(type(one), (tuple, type(None)))

    def check_names(self, rows, told):
        """The same for a program without shelves."""
        self.check(rows, [None if names is None else (names, {}) for names in told])


class StraightTest(LookedTest):
    def test_no_rows(self):
        self.check([], [({}, {})])
        self.check([], [({}, {"s": (0, 0), "t": (0, 0)})], {"s": 3, "t": 1})

    def test_one_row_after_another(self):
        self.check_names(
            [("set", "a", 5), ("take", "b", 1, 9), ("set", "c", ("-", "a", "b")), ("set", "a", "c")],
            [{"a": (0, 0), "b": (0, 0), "c": (0, 0)}, {"a": (5, 5), "b": (0, 0), "c": (0, 0)},
             {"a": (5, 5), "b": (1, 9), "c": (0, 0)}, {"a": (5, 5), "b": (1, 9), "c": (-4, 4)},
             {"a": (-4, 4), "b": (1, 9), "c": (-4, 4)}])

    def test_every_name_has_nought_at_first(self):
        self.check([("when", ("<", "a", "b"), 0), ("put", "s", "c", "d")],
                   [({"a": (0, 0), "b": (0, 0), "c": (0, 0), "d": (0, 0)}, {"s": (0, 0)})] * 3, {"s": 2})

    def test_rows_that_are_never_come_to(self):
        self.check_names([STOP, ("set", "a", 1), STOP], [{"a": (0, 0)}, None, None, None])
        self.check_names([("jump", 2), ("set", "a", 1), STOP], [{"a": (0, 0)}, None, {"a": (0, 0)}, None])
        self.check_names([("set", "a", GREAT), STOP], [{"a": (0, 0)}, None, None])
        self.check_names([("when", ("<", "a", 0), 2), STOP, ("set", "a", 1)],
                         [{"a": (0, 0)}, {"a": (0, 0)}, None, None])
        self.check_names([("when", ("<=", "a", 0), 2), STOP, ("set", "a", 1)],
                         [{"a": (0, 0)}, None, {"a": (0, 0)}, {"a": (1, 1)}])
        self.check_names([("when", ("<", "a", GREAT), 2), STOP, STOP], [{"a": (0, 0)}, None, None, None])

    def test_the_place_behind_all_rows(self):
        self.check_names([("jump", 2), STOP], [{}, None, {}])
        self.check_names([("take", "a", 1, 2), ("when", ("=", "a", 1), 4), ("set", "a", 9), STOP],
                         [{"a": (0, 0)}, {"a": (1, 2)}, {"a": (2, 2)}, {"a": (9, 9)}, {"a": (1, 1)}])

    def test_ways_that_come_together_are_joined(self):
        rows = [("take", "a", 0, 9), ("when", ("<", "a", 5), 4), ("set", "b", 7), ("jump", 5), ("set", "b", -2), STOP]
        self.check_names(rows, [
            {"a": (0, 0), "b": (0, 0)}, {"a": (0, 9), "b": (0, 0)}, {"a": (5, 9), "b": (0, 0)},
            {"a": (5, 9), "b": (7, 7)}, {"a": (0, 4), "b": (0, 0)}, {"a": (0, 9), "b": (-2, 7)}, None])

    def test_the_same_row_by_both_ways(self):
        self.check_names([("take", "a", 0, 9), ("when", ("=", "a", 0), 2), STOP],
                         [{"a": (0, 0)}, {"a": (0, 9)}, {"a": (0, 9)}, None])

    def test_forward_goals_are_not_rounded(self):
        self.check_names([("set", "a", ("+", 3, 4)), ("jump", 2), STOP],
                         [{"a": (0, 0)}, {"a": (7, 7)}, {"a": (7, 7)}, None])

    def test_shelves(self):
        self.check(
            [("put", "s", 1, 4), ("put", "s", 0, -2), ("get", "a", "s", 1), ("get", "b", "t", 0), STOP],
            [({"a": (0, 0), "b": (0, 0)}, {"s": (0, 0), "t": (0, 0)}),
             ({"a": (0, 0), "b": (0, 0)}, {"s": (0, 4), "t": (0, 0)}),
             ({"a": (0, 0), "b": (0, 0)}, {"s": (-2, 4), "t": (0, 0)}),
             ({"a": (-2, 4), "b": (0, 0)}, {"s": (-2, 4), "t": (0, 0)}),
             ({"a": (-2, 4), "b": (0, 0)}, {"s": (-2, 4), "t": (0, 0)}), None], {"s": 2, "t": 1})

    def test_an_index_by_name_has_what_is_left(self):
        self.check(
            [("take", "i", -5, 9), ("get", "a", "s", "i"), ("take", "i", 2, 9), ("put", "s", "i", "i"), STOP],
            [({"a": (0, 0), "i": (0, 0)}, {"s": (0, 0)}), ({"a": (0, 0), "i": (-5, 9)}, {"s": (0, 0)}),
             ({"a": (0, 0), "i": (0, 3)}, {"s": (0, 0)}), ({"a": (0, 0), "i": (2, 9)}, {"s": (0, 0)}),
             ({"a": (0, 0), "i": (2, 3)}, {"s": (0, 3)}), None], {"s": 4})

    def test_a_name_and_a_shelf_called_the_same(self):
        told = [({"s": (0, 0)}, {"s": (0, 0)}), ({"s": (1, 1)}, {"s": (0, 0)}), ({"s": (1, 1)}, {"s": (0, 5)})]
        self.check([("set", "s", 1), ("put", "s", "s", 5)], told, {"s": 2})


class LoopsTest(LookedTest):
    def test_counted_up(self):
        # The high of i goes by the marks 2 and 9 to 9, from there to 10, and no further.
        rows = [("set", "i", 0), ("when", ("<=", 10, "i"), 4), ("set", "i", ("+", "i", 1)), ("jump", 1), STOP]
        self.check_names(rows, [{"i": (0, 0)}, {"i": (0, 10)}, {"i": (0, 9)}, {"i": (1, 10)}, {"i": (10, 10)}, None])

    def test_counted_down(self):
        rows = [("set", "i", 10), ("when", ("<", "i", 0), 4), ("set", "i", ("-", "i", 1)), ("jump", 1), STOP]
        self.check_names(rows, [{"i": (0, 0)}, {"i": (-1, 10)}, {"i": (0, 10)}, {"i": (-1, 9)}, {"i": (-1, -1)}, None])

    def test_counted_up_to_a_mark_beside(self):
        rows = [("set", "i", ("+", "i", 2)), ("when", ("<", "i", 7), 0)]
        # Marks are -1 to 3 and 6 to 8: what comes back is (2, 6), and 8 is the most behind the first row.
        self.check_names(rows, [{"i": (0, 6)}, {"i": (2, 8)}, {"i": (7, 8)}])

    def test_rounded_by_the_marks(self):
        rows = [("set", "i", ("+", "i", 3)), ("when", ("!=", "i", 9), 0)]
        # The high goes up by all marks to 1000000, as i may have gone beyond 9 for all that is known.
        self.check_names(rows, [{"i": (0, TOP)}, {"i": (3, TOP)}, {"i": (9, 9)}])

    def test_without_an_end(self):
        self.check_names([("set", "a", ("+", "a", 1)), ("jump", 0)], [{"a": (0, TOP)}, {"a": (1, TOP)}, None])
        self.check_names([("set", "a", ("-", "a", 3)), ("jump", 0)], [{"a": (-TOP, 0)}, {"a": (-TOP, -3)}, None])
        self.check_names([("set", "a", ("*", "a", -2)), ("jump", 0)], [{"a": (0, 0)}, {"a": (0, 0)}, None])
        self.check_names([("set", "a", ("-", 1, "a")), ("jump", 0)], [{"a": (0, 1)}, {"a": (0, 1)}, None])
        self.check_names([("jump", 0)], [{}, None])
        self.check_names([("take", "a", -TOP, TOP), ("jump", 0)], [{"a": ALL}, {"a": ALL}, None])

    def test_a_head_is_rounded_also_where_nothing_comes_back(self):
        self.check_names([("set", "a", ("+", 3, 4)), STOP, ("jump", 1)], [{"a": (0, 0)}, {"a": (5, TOP)}, None, None])
        self.check_names([("set", "a", ("-", -3, 4)), STOP, ("jump", 1)],
                         [{"a": (0, 0)}, {"a": (-TOP, -4)}, None, None])
        self.check_names([("take", "a", 5, 6), ("set", "a", ("+", "a", 20)), ("when", ("<", "a", 0), 2), STOP],
                         [{"a": (0, 0)}, {"a": (5, 6)}, {"a": (21, TOP)}, {"a": (21, TOP)}, None])

    def test_a_row_that_jumps_to_itself_is_a_head(self):
        self.check_names([("set", "a", ("+", 3, 4)), ("jump", 1)], [{"a": (0, 0)}, {"a": (5, TOP)}, None])
        self.check_names([("set", "a", ("+", 3, 4)), ("when", ("<", "a", 20), 1), STOP],
                         [{"a": (0, 0)}, {"a": (5, 19)}, None, None])

    def test_all_names_are_rounded_at_a_head(self):
        rows = [("set", "a", ("+", 3, 4)), ("set", "b", ("*", 5, -9)), ("when", ("<", "c", 2), 2)]
        self.check_names(rows, [
            {"a": (0, 0), "b": (0, 0), "c": (0, 0)}, {"a": (7, 7), "b": (0, 0), "c": (0, 0)},
            {"a": (6, TOP), "b": (-TOP, -10), "c": (0, 0)}, None])

    def test_shelves_are_rounded_at_a_head(self):
        self.check(
            [("put", "s", 0, ("+", 3, 4)), ("when", ("=", 0, 0), 2), ("put", "s", 1, ("-", -3, 4)),
             ("when", ("<", 0, "a"), 2), STOP],
            [({"a": (0, 0)}, {"s": (0, 0)}), ({"a": (0, 0)}, {"s": (0, 7)}), ({"a": (0, 0)}, {"s": (0, TOP)}),
             ({"a": (0, 0)}, {"s": (-7, TOP)}), ({"a": (0, 0)}, {"s": (-7, TOP)}), None], {"s": 2})

    def test_lengths_are_marks(self):
        rows = [("put", "s", "i", "i"), ("set", "i", ("+", "i", 1)), ("jump", 0)]
        told = [({"i": (0, 8)}, {"s": (0, 7)}), ({"i": (0, 7)}, {"s": (0, 7)}), ({"i": (1, 8)}, {"s": (0, 7)}), None]
        self.check(rows, told, {"s": 8})

    def test_a_loop_within_a_loop(self):
        rows = [
            ("set", "i", 0), ("when", ("<=", 4, "i"), 10), ("set", "j", 0), ("when", ("<=", "i", "j"), 8),
            ("put", "s", "j", ("*", "i", "j")), ("set", "j", ("+", "j", 1)), ("set", "k", "j"), ("jump", 3),
            ("set", "i", ("+", "i", 1)), ("jump", 1), ("get", "a", "s", ("-", "i", 1)),
        ]
        names = [
            ((0, 0), (0, 0), (0, 0), (0, 0)), ((0, 0), (0, 4), (0, 3), (0, 3)), ((0, 0), (0, 3), (0, 3), (0, 3)),
            ((0, 0), (0, 3), (0, 3), (0, 3)), ((0, 0), (1, 3), (0, 2), (0, 3)), ((0, 0), (1, 3), (0, 2), (0, 3)),
            ((0, 0), (1, 3), (1, 3), (0, 3)), ((0, 0), (1, 3), (1, 3), (1, 3)), ((0, 0), (0, 3), (0, 3), (0, 3)),
            ((0, 0), (1, 4), (0, 3), (0, 3)), ((0, 0), (4, 4), (0, 3), (0, 3)), ((0, TOP), (4, 4), (0, 3), (0, 3)),
        ]
        # The products go to 6, beyond the greatest mark, which is 5.
        stock = [{"s": (0, 0)}] + [{"s": (0, TOP)}] * 11
        self.check(rows, [(dict(zip("aijk", told)), one) for told, one in zip(names, stock)], {"s": 4})

    def test_a_loop_entered_in_its_middle(self):
        rows = [("jump", 2), ("set", "a", ("+", "a", 1)), ("when", ("<", "a", 5), 1), STOP]
        self.check_names(rows, [{"a": (0, 0)}, {"a": (0, 4)}, {"a": (0, 5)}, {"a": (5, 5)}, None])

    def test_what_a_loop_does_not_touch_stays(self):
        rows = [("take", "a", 2, 3), ("set", "i", ("+", "i", 1)), ("when", ("<", "i", 5), 1), STOP]
        self.check_names(rows, [{"a": (0, 0), "i": (0, 0)}, {"a": (2, 3), "i": (0, 4)}, {"a": (2, 3), "i": (1, 5)},
                                {"a": (2, 3), "i": (5, 5)}, None])


class GivenTest(unittest.TestCase):
    ROWS = [
        ("take", "i", -3, 9), ("get", "a", "s", "i"), ("when", ("<", "a", 3), 0), ("put", "s", "i", ("+", "a", 1)),
        ("when", ("=", "a", "i"), 1), ("jump", 7), ("stop",), ("put", "s", 9, 9), ("set", "b", 2),
    ]

    def program(self):
        return Program({"s": 4, "t": 2}, self.ROWS)

    def test_looked_gives_the_callers_own(self):
        program = self.program()
        told = looked(program)
        before = copy.deepcopy(told)
        dicts = [one for row in told if row is not None for one in row]
        for at, one in enumerate(dicts):
            self.assertIs(type(one), dict)
            self.assertTrue(all(one is not other for other in dicts[:at]))
            one.clear()
        told[0] = None
        told.clear()
        self.assertEqual(looked(program), before)
        self.assertEqual(looked(self.program()), before)

    def test_changing_what_is_told_of_one_row_leaves_the_others(self):
        program = self.program()
        whole = looked(program)
        for at, row in enumerate(whole):
            if row is not None:
                told = looked(program)
                told[at][0]["i"] = told[at][1]["s"] = (70, 70)
                self.assertEqual(told[:at] + told[at + 1:], whole[:at] + whole[at + 1:])

    def test_index_told_and_ways_told_give_the_callers_own(self):
        program = self.program()
        for function in (index_told, ways_told):
            told = function(program)
            before = list(told)
            self.assertIs(type(told), list)
            told[1] = told[2] = "changed"
            told.clear()
            self.assertEqual(function(program), before)

    def test_the_program_stays(self):
        program = self.program()
        for function in (looked, index_told, ways_told):
            function(program)
            self.assertEqual((program.shelves, program.rows), ({"s": 4, "t": 2}, self.ROWS))
            self.assertEqual((program.names, program.heads), (["a", "b", "i"], [0, 1]))
            self.assertEqual(program.marks, [-4, -3, -2, -1, 0, 1, 2, 3, 4, 5, 8, 9, 10])


class IndexToldTest(unittest.TestCase):
    def check(self, rows, told, shelves=None):
        with self.subTest(rows=rows):
            self.assertEqual(index_told(Program({"s": 4} if shelves is None else shelves, rows)), told)

    def check_index(self, index, told, taken=(0, 0)):
        """A get and a put by an index in which i has the stretch taken."""
        take = ("take", "i", *taken)
        self.check([take, ("get", "a", "s", index), STOP], [None, told, None])
        self.check([take, ("put", "s", index, 0), STOP], [None, told, None])

    def test_other_rows(self):
        self.check([], [])
        rows = [("set", "a", 1), ("take", "a", 0, 1), ("when", ("<", 0, "a"), 4), ("jump", 4), STOP, STOP]
        self.check(rows, [None] * 6)

    def test_numbers(self):
        for index, told in ((0, "within"), (1, "within"), (3, "within"), (4, "out"), (5, "out"), (-1, "out"),
                            (TOP, "out"), (-TOP, "out")):
            self.check_index(index, told)

    def test_names(self):
        for taken, told in (((0, 3), "within"), ((1, 2), "within"), ((3, 3), "within"), ((0, 4), "either"),
                            ((-1, 3), "either"), ((-1, 0), "either"), ((3, 4), "either"), ((-1, 4), "either"),
                            ((4, 4), "out"), ((4, 9), "out"), ((-9, -1), "out"), (ALL, "either")):
            self.check_index("i", told, taken)
            self.check_index(("-", ("+", "i", 1), 1), told, taken)

    def test_an_index_that_reaches_none(self):
        for index in (GREAT, ("*", 0, GREAT), ("-", ("+", TOP, "i"), TOP)):
            self.check_index(index, "out", (1, 2))

    def test_an_index_cut_by_the_limit(self):
        self.check_index(("-", ("+", "i", TOP - 3), TOP - 3), "within", (0, 9))

    def test_what_is_put_does_not_count(self):
        self.check([("put", "s", 1, GREAT), ("put", "s", 1, 1)], ["within", "never"])
        self.check([("put", "s", 4, GREAT), ("put", "s", 1, 1)], ["out", "never"])

    def test_never(self):
        self.check([STOP, ("get", "a", "s", 0), ("put", "s", 9, 0)], [None, "never", "never"])
        self.check([("get", "a", "s", 4), ("get", "a", "s", 0)], ["out", "never"])
        self.check([("jump", 2), ("put", "s", GREAT, 0), STOP], [None, "never", None])

    def test_the_length_of_the_shelf(self):
        rows = [("take", "i", 0, 1), ("get", "a", "s", "i"), ("take", "i", 0, 1), ("get", "a", "t", "i")]
        self.check(rows, [None, "either", None, "within"], {"s": 1, "t": 2})
        self.check(rows, [None, "within", None, "either"], {"s": 2, "t": 1})
        self.check([("get", "a", "s", 99), ("put", "s", 100, 1)], ["within", "out"], {"s": 100})

    def test_the_index_goes_by_what_is_known_ahead_of_its_row(self):
        rows = [("take", "i", -2, 9), ("get", "i", "s", "i"), ("put", "s", "i", 1), ("take", "i", 2, 9),
                ("put", "s", "i", 5), ("get", "a", "s", "i"), STOP]
        self.check(rows, [None, "either", "within", None, "either", "within", None])

    def test_in_a_loop(self):
        rows = [("when", ("<=", 4, "i"), 4), ("put", "s", "i", 7), ("set", "i", ("+", "i", 1)), ("jump", 0),
                ("get", "a", "s", ("-", "i", 1)), ("get", "a", "s", "i")]
        self.check(rows, [None, "within", None, None, "within", "out"])
        rows[0] = ("when", ("<", 4, "i"), 4)
        # The put lets no i beyond 3 pass: so the loop is never left by the when.
        self.check(rows, [None, "either", None, None, "never", "never"])


class WaysToldTest(unittest.TestCase):
    def check(self, rows, told, shelves=None):
        with self.subTest(rows=rows):
            found = ways_told(Program({} if shelves is None else shelves, rows))
            self.assertEqual(found, told)
            for row, one in zip(rows, found):
                if row[0] == "when":
                    self.assertIs(type(one), tuple)
                    self.assertEqual([type(truth) for truth in one], [bool, bool])

    def check_when(self, condition, told, taken=(0, 0)):
        self.check([("take", "a", *taken), ("when", condition, 3), STOP, STOP], [None, told, None, None])

    def test_other_rows(self):
        self.check([], [])
        rows = [("set", "a", 1), ("take", "a", 0, 1), ("get", "a", "s", 0), ("put", "s", 0, 0), ("jump", 5), STOP]
        self.check(rows, [None] * 6, {"s": 1})

    def test_both_truths(self):
        both, one, other = (True, True), (True, False), (False, True)
        for condition, told in (
            (("<", "a", 9), both), (("<", "a", 2), other), (("<", "a", 3), both), (("<", "a", 10), one),
            (("<=", "a", 9), one), (("<=", "a", 8), both), (("<=", "a", 2), both), (("<=", "a", 1), other),
            (("=", "a", 5), both), (("=", "a", 1), other), (("=", "a", 10), other), (("=", 2, "a"), both),
            (("!=", "a", 5), both), (("!=", "a", 1), one), (("!=", "a", 10), one), (("!=", 9, "a"), both),
            (("<", "a", ("+", "a", 1)), both), (("=", "a", "a"), both), (("<", "a", "a"), both),
        ):
            self.check_when(condition, told, (2, 9))

    def test_one_number(self):
        for sign, told in (("<", (False, True)), ("<=", (True, False)), ("=", (True, False)), ("!=", (False, True))):
            self.check_when((sign, "a", 4), told, (4, 4))
            self.check_when((sign, "a", "a"), told, (4, 4))
            self.check_when((sign, 4, 4), told)

    def test_a_condition_that_is_great(self):
        for sign in ("<", "<=", "=", "!="):
            self.check_when((sign, GREAT, "a"), (False, False))
            self.check_when((sign, "a", ("+", "a", TOP)), (False, False), (1, 5))

    def test_never_come_to(self):
        self.check([STOP, ("when", ("<", 0, 1), 0)], [None, (False, False)])
        self.check([("jump", 2), ("when", ("<", "a", 1), 0), STOP], [None, (False, False), None])
        self.check([("when", ("<", 0, 1), 2), ("when", ("<", 0, 1), 0), STOP], [(True, False), (False, False), None])

    def test_the_next_row_as_goal(self):
        self.check([("take", "a", 0, 5), ("when", ("<", "a", 9), 2), STOP], [None, (True, False), None])
        self.check([("take", "a", 0, 5), ("when", ("<", "a", 3), 2), STOP], [None, (True, True), None])

    def test_in_a_loop(self):
        rows = [("set", "i", ("+", "i", 1)), ("when", ("<", "i", 5), 0), ("when", ("=", "i", 5), 4), STOP, STOP]
        self.check(rows, [None, (True, True), (True, False), None, None])


if __name__ == "__main__":
    unittest.main()
