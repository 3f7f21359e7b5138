"""What is told holds for each run: point 16, and the least that holds: point 14. Over many programs made by rule."""

import copy
import unittest

from boundwatch.looking import behind, index_told, looked, ways_told
from boundwatch.programs import Program
from boundwatch.running import Run, ran
from boundwatch.stretches import joined, rounded
from boundwatch.words import holds

TOP = 1000000
NAMES = ("a", "b", "c", "s")
WRITTEN = (0, 0, 1, 1, 1, 2, 3, 4, 5, 7, 10, -1, -2, -3, -7, 100, -100, 1000, -999999, TOP)


class Draw:
    """Numbers drawn one after another, the same ones for the same seed."""

    def __init__(self, seed):
        self.now = seed

    def below(self, many):
        self.now = (self.now * 6364136223846793005 + 1442695040888963407) % 2 ** 64
        return (self.now >> 33) % many

    def one_of(self, things):
        return things[self.below(len(things))]


def drawn_expression(draw, deep):
    kind = draw.below(10)
    if deep == 1 or kind < 6:
        return draw.one_of(NAMES) if kind % 3 else draw.one_of(WRITTEN)
    first = drawn_expression(draw, deep - 1)
    if kind == 9:
        return ("rest", first, draw.one_of((1, 2, 3, 5, 8, 1000)))
    return (draw.one_of(("+", "+", "-", "-", "*")), first, drawn_expression(draw, deep - 1))


def drawn_row(draw, shelves, many):
    kind = draw.below(16)
    name = draw.one_of(NAMES)
    if kind < 2:
        low, high = sorted((draw.one_of(WRITTEN), draw.one_of(WRITTEN)))
        return ("take", name, low, high)
    if kind < 6:
        return ("set", name, drawn_expression(draw, 3))
    if kind < 8 and shelves:
        return ("get", name, draw.one_of(list(shelves)), drawn_expression(draw, 2))
    if kind < 10 and shelves:
        return ("put", draw.one_of(list(shelves)), drawn_expression(draw, 2), drawn_expression(draw, 2))
    if kind < 14:
        sign = draw.one_of(("<", "<=", "=", "!="))
        return ("when", (sign, drawn_expression(draw, 2), drawn_expression(draw, 2)), draw.below(many + 1))
    if kind < 15:
        return ("jump", draw.below(many + 1))
    return ("stop",) if draw.below(4) == 0 else ("set", name, ("+", name, draw.one_of((1, 2, -1))))


def drawn_program(seed):
    draw = Draw(seed)
    shelves = {name: 1 + draw.below(6) for name in ("s", "t")[:draw.below(3)]}
    many = draw.below(11)
    return Program(shelves, [drawn_row(draw, shelves, many) for _ in range(many)])


def drawn_numbers(seed):
    draw = Draw(seed)
    return [draw.one_of((0, 1, 2, 3, -1, -5, 9, 10 ** 7, -10 ** 7, 10 ** 30, 999)) for _ in range(draw.below(20))]


def looping_programs():
    """Programs whose loops do something, and come to an end."""
    sort = [
        ("when", ("<=", 6, "i"), 4), ("take", "x", -50, 50), ("put", "s", "i", "x"), ("jump", 5), ("jump", 7),
        ("set", "i", ("+", "i", 1)), ("jump", 0),
        ("set", "i", 0), ("when", ("<=", 5, "i"), 20), ("set", "j", 0), ("when", ("<=", 5, "j"), 18),
        ("get", "x", "s", "j"), ("get", "y", "s", ("+", "j", 1)), ("when", ("<=", "x", "y"), 16),
        ("put", "s", "j", "y"), ("put", "s", ("+", "j", 1), "x"), ("set", "j", ("+", "j", 1)), ("jump", 10),
        ("set", "i", ("+", "i", 1)), ("jump", 8), ("stop",),
    ]
    sieve = [
        ("set", "i", 2), ("when", ("<=", 30, "i"), 11), ("get", "x", "s", "i"), ("when", ("!=", "x", 0), 9),
        ("set", "n", ("+", "n", 1)), ("set", "j", ("+", "i", "i")), ("when", ("<=", 30, "j"), 9),
        ("put", "s", "j", 1), ("jump", 12), ("set", "i", ("+", "i", 1)), ("jump", 1), ("stop",),
        ("set", "j", ("+", "j", "i")), ("jump", 6),
    ]
    divisor = [
        ("take", "a", 1, 500), ("take", "b", 1, 500), ("when", ("=", "a", "b"), 7), ("when", ("<", "a", "b"), 6),
        ("set", "a", ("-", "a", "b")), ("jump", 2), ("jump", 8), ("stop",), ("set", "b", ("-", "b", "a")), ("jump", 2),
    ]
    queue = [
        ("take", "x", -9, 9), ("when", ("=", "x", 0), 9), ("put", "q", "end", "x"),
        ("set", "end", ("rest", ("+", "end", 1), 5)), ("set", "many", ("+", "many", 1)), ("when", ("<", "many", 40), 0),
        ("get", "x", "q", "end"), ("set", "sum", ("+", "sum", "x")), ("jump", 0),
        ("get", "x", "q", ("-", "end", 1)), ("set", "sum", ("*", "sum", "x")), ("when", ("!=", "sum", 0), 9),
    ]
    return [Program({"s": 6}, sort), Program({"s": 30}, sieve), Program({}, divisor), Program({"q": 5}, queue)]


class AllRuns(unittest.TestCase):
    def check_lies(self, run, told):
        """What the run holds lies in what is told where it stands."""
        known = told[run.at]
        self.assertIsNotNone(known)
        for name, number in run.held.items():
            low, high = known[0][name]
            self.assertTrue(low <= number <= high, (run.at, name, number, low, high))
        for shelf, numbers in run.stock.items():
            low, high = known[1][shelf]
            for number in numbers:
                self.assertTrue(low <= number <= high, (run.at, shelf, number, low, high))

    def check_step(self, program, run, index, ways):
        """Does a step, and looks at what is told of the row at which the run stood."""
        at, held = run.at, dict(run.held)
        run.step()
        if run.end == "out":
            self.assertIn(index[at], ("out", "either"))
        self.assertNotEqual(index[at], "never")
        if index[at] == "out":
            self.assertIn(run.end, ("out", "great"))
            self.assertEqual(run.at, at)
        if ways[at] is not None:
            truth = holds(program.rows[at][1], held)
            if truth is None:
                self.assertEqual((run.at, run.end), (at, "great"))
            else:
                self.assertTrue(ways[at][0 if truth else 1])
                self.assertEqual(run.at, program.rows[at][2] if truth else at + 1)

    def check_run(self, program, numbers, most):
        told, index, ways = looked(program), index_told(program), ways_told(program)
        many = len(program.rows)
        self.assertEqual([len(told), len(index), len(ways)], [many + 1, many, many])
        run = Run(program, numbers)
        self.check_lies(run, told)
        for _ in range(most):
            if run.end is not None:
                break
            self.check_step(program, run, index, ways)
            self.check_lies(run, told)
        other = ran(program, numbers, most)
        self.assertEqual((run.at, run.held, run.stock, run.end), (other.at, other.held, other.stock, other.end))

    def test_drawn_programs(self):
        for seed in range(500):
            program = drawn_program(seed)
            for more in range(3):
                with self.subTest(seed=seed, more=more):
                    self.check_run(program, drawn_numbers(seed * 7 + more), 60)

    def test_looping_programs(self):
        for at, program in enumerate(looping_programs()):
            for seed in range(6):
                with self.subTest(at=at, seed=seed):
                    self.check_run(program, drawn_numbers(seed), 700)


class TellsTest(unittest.TestCase):
    """index_told and ways_told say the same as looked and behind."""

    def programs(self):
        return [drawn_program(seed) for seed in range(300)] + looping_programs()

    def test_rows_told_never_and_out_have_no_way_on(self):
        for program in self.programs():
            told, index = looked(program), index_told(program)
            for at, row in enumerate(program.rows):
                self.assertEqual(index[at] is not None, row[0] in ("get", "put"))
                if index[at] is not None:
                    self.assertEqual(index[at] == "never", told[at] is None)
                if index[at] == "out":
                    self.assertEqual(behind(program, at, *told[at]), [])

    def test_ways_told_are_the_ways_that_behind_gives(self):
        for program in self.programs():
            told, ways = looked(program), ways_told(program)
            for at, row in enumerate(program.rows):
                self.assertEqual(ways[at] is not None, row[0] == "when")
                if ways[at] is not None:
                    goals = [] if told[at] is None else [goal for goal, *_ in behind(program, at, *told[at])]
                    self.assertEqual(goals, [goal for goal, truth in zip((row[2], at + 1), ways[at]) if truth])


class LeastTest(unittest.TestCase):
    """looked tells what holds, and what lies in all that holds."""

    def programs(self):
        return [drawn_program(seed) for seed in range(400)] + looping_programs()

    def lies_in(self, one, other):
        if one is None or other is None:
            return one is None
        pairs = [(some[key], more[key]) for some, more in zip(one, other) for key in some]
        return all(wide[0] <= low and high <= wide[1] for (low, high), wide in pairs)

    def test_what_goes_on_lies_in_what_is_told_at_its_goal(self):
        for program in self.programs():
            told = looked(program)
            nought = ({name: (0, 0) for name in program.names}, {shelf: (0, 0) for shelf in program.shelves})
            self.assertTrue(self.lies_in(nought, told[0]))
            for at, known in enumerate(told):
                if known is not None:
                    self.assertEqual((set(known[0]), set(known[1])), (set(program.names), set(program.shelves)))
                    for goal, *come in behind(program, at, *known):
                        self.assertTrue(self.lies_in(come, told[goal]), (program.rows, at, goal))

    def test_ends_at_heads_are_marks(self):
        for program in self.programs():
            told = looked(program)
            for known in [told[at] for at in program.heads if told[at] is not None]:
                for low, high in list(known[0].values()) + list(known[1].values()):
                    self.assertTrue(low in program.marks or low == -TOP, (program.rows, low))
                    self.assertTrue(high in program.marks or high == TOP, (program.rows, high))

    def from_below(self, program, order):
        """The least that holds, come to from nothing by going over all rows again and again."""
        told = [None] * (len(program.rows) + 1)
        told[0] = ({name: (0, 0) for name in program.names}, {shelf: (0, 0) for shelf in program.shelves})
        before = None
        while told != before:
            before = copy.deepcopy(told)
            for at in order:
                for goal, *come in behind(program, at, *told[at]) if told[at] is not None else []:
                    old = told[goal] or ({}, {})
                    new = [{key: joined(one.get(key), stretch) for key, stretch in two.items()}
                           for one, two in zip(old, come)]
                    if goal in program.heads:
                        new = [{key: rounded(stretch, program.marks) for key, stretch in one.items()} for one in new]
                    told[goal] = tuple(new)
        return told

    def test_the_order_of_going_on_does_not_matter(self):
        for program in self.programs():
            rows = range(len(program.rows))
            self.assertEqual(looked(program), self.from_below(program, rows), program.rows)
            self.assertEqual(looked(program), self.from_below(program, list(reversed(rows))), program.rows)

    def test_the_drawn_programs_are_of_many_kinds(self):
        # A check of the programs themselves: each kind of row is come to, and each word is told.
        words, tells, truths, ends = set(), set(), set(), set()
        for program in self.programs():
            told = looked(program)
            words.update(row[0] for at, row in enumerate(program.rows) if told[at] is not None)
            tells.update(index_told(program))
            truths.update(ways_told(program))
            ends.add(ran(program, drawn_numbers(len(program.rows)), 60).end)
        self.assertEqual(words, {"set", "take", "get", "put", "when", "jump", "stop"})
        self.assertEqual(tells, {None, "never", "within", "out", "either"})
        self.assertEqual(truths, {None, (True, True), (True, False), (False, True), (False, False)})
        self.assertEqual(ends, {None, "done", "great", "out"})


if __name__ == "__main__":
    unittest.main()
