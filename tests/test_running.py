"""Runs: boundwatch.running, points 7 and 8."""

import unittest

from boundwatch.programs import Program
from boundwatch.running import Run, ran

TOP = 1000000
GREAT = ("+", TOP, 1)


def state(run):
    """What a run shows, in values that do not change with it."""
    return run.at, dict(run.held), {shelf: list(numbers) for shelf, numbers in run.stock.items()}, run.end


class RunTest(unittest.TestCase):
    def run_of(self, rows, shelves=None, numbers=(), steps=0):
        run = Run(Program({"s": 3} if shelves is None else shelves, rows), list(numbers))
        for _ in range(steps):
            self.assertIsNone(run.end)
            self.assertIsNone(run.step())
        return run

    def check(self, run, at, held, end=None, stock=None):
        self.assertEqual(state(run), (at, held, {"s": [0, 0, 0]} if stock is None else stock, end))

    def check_ended(self, run):
        """An ended run does no more."""
        before = state(run)
        self.assertIsNotNone(run.end)
        for _ in range(3):
            self.assertIsNone(run.step())
            self.assertEqual(state(run), before)

    def check_stays(self, rows, steps, end, numbers=(), shelves=None):
        """After so many steps the next one ends the run, and changes nothing else."""
        run = self.run_of(rows, shelves, numbers, steps)
        at, held, stock, _ = state(run)
        self.assertIsNone(run.end)
        self.assertIsNone(run.step())
        with self.subTest(rows=rows):
            self.assertEqual(state(run), (at, held, stock, end))
        self.check_ended(run)


class BeginningTest(RunTest):
    def test_all_hold_nought(self):
        rows = [("set", "a", "b"), ("when", ("<", "c", ("+", "d", 1)), 0), ("put", "s", "e", "f"), ("take", "g", 3, 5)]
        run = self.run_of(rows, {"s": 2, "long": 100, "t": 1})
        self.check(run, 0, {name: 0 for name in "abcdefg"}, None, {"s": [0, 0], "long": [0] * 100, "t": [0]})

    def test_kinds(self):
        run = self.run_of([("set", "a", 1)])
        self.assertIs(type(run.held), dict)
        self.assertIs(type(run.stock), dict)
        self.assertIs(type(run.stock["s"]), list)
        self.assertIs(type(run.at), int)
        run.step()
        self.assertIs(type(run.end), str)

    def test_no_rows_end_at_once(self):
        for shelves, stock in (({}, {}), ({"s": 2}, {"s": [0, 0]})):
            run = self.run_of([], shelves, [5, 6])
            self.check(run, 0, {}, "done", stock)
            self.check_ended(run)

    def test_a_name_and_a_shelf_called_the_same(self):
        run = self.run_of([("set", "s", 2), ("put", "s", "s", 7), ("get", "s", "s", "s")])
        run.step()
        self.check(run, 1, {"s": 2})
        run.step()
        self.check(run, 2, {"s": 2}, None, {"s": [0, 0, 7]})
        run.step()
        self.check(run, 3, {"s": 7}, "done", {"s": [0, 0, 7]})


class SetTest(RunTest):
    def test_ordinary(self):
        run = self.run_of([("set", "a", 5), ("set", "b", ("*", ("-", "a", 7), 4)), ("set", "a", "b"), ("stop",)])
        run.step()
        self.check(run, 1, {"a": 5, "b": 0})
        run.step()
        self.check(run, 2, {"a": 5, "b": -8})
        run.step()
        self.check(run, 3, {"a": -8, "b": -8})

    def test_by_itself(self):
        run = self.run_of([("set", "a", ("+", "a", 3)), ("jump", 0)], steps=5)
        self.check(run, 1, {"a": 9})

    def test_rest_below_nought(self):
        run = self.run_of([("set", "a", ("rest", -1, 5)), ("stop",)], steps=1)
        self.check(run, 1, {"a": 4})

    def test_great(self):
        for a in (GREAT, ("+", -TOP, -1), ("-", TOP, -1), ("-", -TOP, 1), ("*", 101, 9901), ("*", -101, 9901),
                  ("*", GREAT, 0), ("rest", GREAT, 5), ("+", "a", GREAT)):
            self.check_stays([("set", "a", a), ("stop",)], 0, "great")
            self.check_stays([("set", "a", 5), ("set", "a", a), ("stop",)], 1, "great")

    def test_exactly_at_the_limit(self):
        for a, number in ((("+", TOP - 1, 1), TOP), (("-", 1 - TOP, 1), -TOP), (("*", -1000, 1000), -TOP)):
            self.check(self.run_of([("set", "a", a), ("stop",)], steps=1), 1, {"a": number})

    def test_great_after_some_rounds(self):
        rows = [("set", "a", ("+", "a", 400000)), ("jump", 0)]
        run = self.run_of(rows, steps=4)
        self.check(run, 0, {"a": 800000})
        self.check_stays(rows, 4, "great")


class TakeTest(RunTest):
    def test_below_between_above_and_none_left(self):
        for low, high, number, told in (
            (3, 8, 2, 3), (3, 8, 3, 3), (3, 8, 4, 4), (3, 8, 7, 7), (3, 8, 8, 8), (3, 8, 9, 8),
            (3, 8, -50, 3), (3, 8, 50, 8), (-8, -3, 0, -3), (-8, -3, -9, -8), (-8, -3, -5, -5),
            (5, 5, 9, 5), (5, 5, 1, 5),
            (3, 8, 10 ** 40, 8), (3, 8, -10 ** 40, 3), (-TOP, TOP, TOP + 1, TOP), (-TOP, TOP, -TOP - 1, -TOP),
            (-TOP, TOP, TOP, TOP), (-TOP, TOP, -TOP, -TOP), (0, 9, 0, 0),
        ):
            with self.subTest(low=low, high=high, number=number):
                self.check(self.run_of([("take", "a", low, high), ("stop",)], None, [number], 1), 1, {"a": told})
        for low, high in ((3, 8), (-8, -3), (0, 1), (5, 5)):
            self.check(self.run_of([("take", "a", low, high), ("stop",)], None, [], 1), 1, {"a": low})

    def test_one_after_another(self):
        rows = [("take", "a", 0, 9), ("take", "b", 0, 9), ("take", "a", 0, 9), ("take", "b", 2, 9), ("take", "a", 1, 9)]
        run = self.run_of(rows, None, [7, 50, 4])
        for at, held in enumerate([(7, 0), (7, 9), (4, 9), (4, 2)], 1):
            run.step()
            self.check(run, at, {"a": held[0], "b": held[1]})
        run.step()
        self.check(run, 5, {"a": 1, "b": 2}, "done")

    def test_other_rows_take_nothing(self):
        rows = [("set", "b", 1), ("put", "s", 0, 5), ("get", "b", "s", 0), ("when", ("<", 1, 0), 0),
                ("take", "a", 0, 9)]
        run = self.run_of(rows, None, [7, 8], 5)
        self.check(run, 5, {"a": 7, "b": 5}, "done", {"s": [5, 0, 0]})

    def test_in_a_loop(self):
        rows = [("take", "a", -9, 9), ("set", "sum", ("+", "sum", "a")), ("when", ("!=", "a", -9), 0), ("stop",)]
        run = ran(Program({}, rows), [4, 5, 60, -2], 100)
        self.assertEqual((run.at, run.held, run.end), (3, {"a": -9, "sum": 7}, "done"))


class ShelvesTest(RunTest):
    def test_put_and_get(self):
        rows = [("put", "s", 0, 5), ("put", "s", 2, ("+", 5, 1)), ("get", "a", "s", 2), ("get", "b", "s", 0),
                ("get", "a", "s", 1), ("put", "s", 0, ("-", "b", 9)), ("stop",)]
        run = self.run_of(rows)
        for at, a, b, stock in ((1, 0, 0, [5, 0, 0]), (2, 0, 0, [5, 0, 6]), (3, 6, 0, [5, 0, 6]), (4, 6, 5, [5, 0, 6]),
                                (5, 0, 5, [5, 0, 6]), (6, 0, 5, [-4, 0, 6])):
            run.step()
            self.check(run, at, {"a": a, "b": b}, None, {"s": stock})

    def test_index_worked_out(self):
        rows = [("set", "i", 1), ("put", "s", ("+", "i", 1), ("*", "i", 8)), ("put", "s", "i", 7),
                ("get", "i", "s", ("+", "i", 1)), ("stop",)]
        run = self.run_of(rows, steps=4)
        self.check(run, 4, {"i": 8}, None, {"s": [0, 7, 8]})

    def test_get_to_the_name_of_its_index(self):
        rows = [("put", "s", 1, 2), ("set", "i", 1), ("get", "i", "s", "i"), ("get", "i", "s", "i"), ("stop",)]
        run = self.run_of(rows, steps=3)
        self.check(run, 3, {"i": 2}, None, {"s": [0, 2, 0]})
        run.step()
        self.check(run, 4, {"i": 0}, None, {"s": [0, 2, 0]})

    def test_shelves_do_not_touch_each_other(self):
        rows = [("put", "s", 0, 5), ("put", "t", 0, 6), ("get", "a", "s", 0), ("get", "b", "t", 0), ("stop",)]
        run = self.run_of(rows, {"s": 1, "t": 2, "u": 2}, (), 4)
        self.check(run, 4, {"a": 5, "b": 6}, None, {"s": [5], "t": [6, 0], "u": [0, 0]})

    def test_first_and_last_place(self):
        for length in (1, 2, 100):
            rows = [("put", "s", 0, 4), ("put", "s", length - 1, 5), ("get", "a", "s", length - 1), ("stop",)]
            run = self.run_of(rows, {"s": length}, (), 3)
            self.assertEqual((run.at, run.held, run.end), (3, {"a": 5}, None))
            for index in (length, length + 1, -1, -length, TOP, -TOP):
                self.check_stays(rows[:2] + [("get", "a", "s", index)], 2, "out", (), {"s": length})
                self.check_stays(rows[:2] + [("put", "s", index, 7)], 2, "out", (), {"s": length})

    def test_out_by_a_name(self):
        for index in (3, -1):
            rows = [("set", "i", index), ("get", "a", "s", "i"), ("stop",)]
            self.check_stays(rows, 1, "out")
            self.check_stays([("set", "i", index), ("put", "s", "i", 5), ("stop",)], 1, "out")
            self.check_stays([("set", "i", index), ("get", "i", "s", "i"), ("stop",)], 1, "out")

    def test_great_index(self):
        for index in (GREAT, ("-", GREAT, TOP), ("*", 0, GREAT)):
            self.check_stays([("get", "a", "s", index), ("stop",)], 0, "great")
            self.check_stays([("put", "s", index, 5), ("stop",)], 0, "great")
            self.check_stays([("put", "s", index, GREAT), ("stop",)], 0, "great")

    def test_great_number(self):
        self.check_stays([("put", "s", 0, GREAT), ("stop",)], 0, "great")
        self.check_stays([("put", "s", 0, 8), ("put", "s", 0, GREAT), ("stop",)], 1, "great")

    def test_index_off_the_shelf_goes_before_a_great_number(self):
        for index in (3, -1, ("+", 1, 2)):
            self.check_stays([("put", "s", index, GREAT), ("stop",)], 0, "out")


class WaysTest(RunTest):
    def test_when(self):
        for sign, truths in (("<", (True, False, False)), ("<=", (True, True, False)),
                             ("=", (False, True, False)), ("!=", (True, False, True))):
            for number, truth in zip((4, 5, 6), truths):
                rows = [("set", "a", number), ("when", (sign, "a", 5), 3), ("stop",), ("stop",), ("stop",)]
                self.check(self.run_of(rows, steps=2), 3 if truth else 2, {"a": number})

    def test_when_to_each_kind_of_goal(self):
        for goal in (0, 1, 2, 3, 4):
            rows = [("set", "a", 1), ("set", "a", 2), ("when", ("=", "a", 2), goal), ("stop",)]
            run = self.run_of(rows, steps=3)
            self.check(run, goal, {"a": 2}, "done" if goal == 4 else None)
            rows[2] = ("when", ("!=", "a", 2), goal)
            self.check(self.run_of(rows, steps=3), 3, {"a": 2})

    def test_when_as_the_last_row(self):
        run = self.run_of([("when", ("<", 1, 0), 0)], steps=1)
        self.check(run, 1, {}, "done")
        self.check_ended(run)
        run = self.run_of([("when", ("<", 0, 1), 0)], steps=3)
        self.check(run, 0, {})

    def test_great_condition(self):
        for sign in ("<", "<=", "=", "!="):
            for condition in ((sign, GREAT, 0), (sign, 0, GREAT), (sign, GREAT, GREAT)):
                self.check_stays([("set", "a", 1), ("when", condition, 0), ("stop",)], 1, "great")

    def test_jump_to_each_kind_of_goal(self):
        for goal in (0, 1, 2, 3):
            run = self.run_of([("set", "a", 1), ("jump", goal), ("stop",)], steps=2)
            self.check(run, goal, {"a": 1}, "done" if goal == 3 else None)

    def test_jump_to_its_own_row(self):
        self.check(self.run_of([("jump", 0)], steps=5), 0, {})

    def test_done_behind_all_rows(self):
        for rows in ([("set", "a", 1)], [("take", "a", 1, 2)], [("put", "s", 0, 0), ("set", "a", 1)],
                     [("set", "a", 1), ("when", ("<", 0, 1), 2)], [("set", "a", 1), ("jump", 2)]):
            run = self.run_of(rows, steps=len(rows))
            self.check(run, len(rows), {"a": 1}, "done")
            self.check_ended(run)

    def test_stop(self):
        self.check_stays([("stop",)], 0, "done")
        self.check_stays([("set", "a", 1), ("stop",), ("set", "a", 2)], 1, "done")


class HandedInTest(RunTest):
    ROWS = [("take", "a", 0, 9), ("put", "s", 0, "a"), ("set", "b", ("+", "b", "a")), ("jump", 0)]

    def test_numbers_stay_and_may_change_later(self):
        numbers = [3, 4, 5]
        run = Run(Program({"s": 3}, self.ROWS), numbers)
        numbers[0] = 8
        run.step()
        self.check(run, 1, {"a": 3, "b": 0})
        numbers.clear()
        for _ in range(4):
            run.step()
        self.check(run, 1, {"a": 4, "b": 3}, None, {"s": [3, 0, 0]})
        self.assertEqual(numbers, [])
        numbers = [3, 4]
        ran(Program({"s": 3}, self.ROWS), numbers, 50)
        self.assertEqual(numbers, [3, 4])

    def test_the_program_stays(self):
        program = Program({"s": 3}, self.ROWS)
        ran(program, [3, 4, 5], 50)
        self.assertEqual((program.shelves, program.rows), ({"s": 3}, self.ROWS))
        self.assertEqual((program.names, program.heads), (["a", "b"], [0]))
        self.assertEqual(program.marks, [-1, 0, 1, 2, 3, 4, 8, 9, 10])

    def test_two_runs_do_not_touch_each_other(self):
        program = Program({"s": 3}, self.ROWS)
        numbers = [3, 4, 5]
        first, second = Run(program, numbers), Run(program, numbers)
        for _ in range(5):
            first.step()
        self.check(second, 0, {"a": 0, "b": 0})
        for _ in range(2):
            second.step()
        self.check(first, 1, {"a": 4, "b": 3}, None, {"s": [3, 0, 0]})
        self.check(second, 2, {"a": 3, "b": 0}, None, {"s": [3, 0, 0]})
        second.held["a"] = 70
        second.stock["s"][1] = 70
        self.check(first, 1, {"a": 4, "b": 3}, None, {"s": [3, 0, 0]})
        self.check(Run(program, numbers), 0, {"a": 0, "b": 0})


class RanTest(RunTest):
    ROWS = [("take", "a", 0, 9), ("set", "b", ("+", "b", "a")), ("when", ("<", "b", 10), 0), ("stop",)]

    def ran(self, most, numbers=(4, 4, 4, 4)):
        return ran(Program({"s": 3}, self.ROWS), list(numbers), most)

    def test_none_some_and_all_steps(self):
        for most, at, a, b, end in ((0, 0, 0, 0, None), (1, 1, 4, 0, None), (2, 2, 4, 4, None), (3, 0, 4, 4, None),
                                    (9, 3, 4, 12, None), (10, 3, 4, 12, "done"), (11, 3, 4, 12, "done"),
                                    (10 ** 5, 3, 4, 12, "done")):
            with self.subTest(most=most):
                run = self.ran(most)
                self.assertIsInstance(run, Run)
                self.check(run, at, {"a": a, "b": b}, end)

    def test_below_nought_steps_are_none(self):
        for most in (-1, -2, -70):
            self.check(self.ran(most), 0, {"a": 0, "b": 0})
        self.check(ran(Program({}, []), [], -1), 0, {}, "done", {})

    def test_goes_on_from_there(self):
        run = self.ran(4)
        for _ in range(6):
            run.step()
        self.check(run, 3, {"a": 4, "b": 12}, "done")
        self.check_ended(run)

    def test_twice_alike(self):
        for most in (0, 5, 10, 20):
            self.assertEqual(state(self.ran(most)), state(self.ran(most)))
        program, numbers = Program({"s": 3}, self.ROWS), [1, 2]
        self.assertEqual(state(ran(program, numbers, 7)), state(ran(program, numbers, 7)))

    def test_a_run_without_an_end(self):
        run = ran(Program({}, [("set", "a", ("+", "a", 1)), ("jump", 0)]), [], 2001)
        self.assertEqual((run.at, run.held, run.end), (1, {"a": 1001}, None))

    def test_each_end(self):
        for rows, at, end in (([], 0, "done"), ([("stop",)], 0, "done"), ([("jump", 1)], 1, "done"),
                              ([("set", "a", GREAT)], 0, "great"), ([("get", "a", "s", 3)], 0, "out")):
            run = ran(Program({"s": 3}, rows), [], 50)
            self.assertEqual((run.at, run.end), (at, end))
            self.check_ended(run)


if __name__ == "__main__":
    unittest.main()
