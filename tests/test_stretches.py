"""Stretches: boundwatch.stretches, point 9."""

import unittest

from boundwatch.stretches import joined, met, minus, plus, rest, rounded, times

TOP = 1000000


def small_stretches(most):
    """All stretches of numbers from -most to most."""
    ends = range(-most, most + 1)
    return [(low, high) for low in ends for high in ends if low <= high]


def numbers_of(stretch):
    return range(stretch[0], stretch[1] + 1)


class TableTest(unittest.TestCase):
    """Rows of arguments, and what the function gives back for them."""

    def check(self, function, rows):
        for *arguments, told in rows:
            with self.subTest(function=function.__name__, arguments=arguments):
                found = function(*arguments)
                self.assertEqual(found, told)
                self.check_kind(found)

    def check_kind(self, found):
        if found is not None:
            self.assertIs(type(found), tuple)
            self.assertEqual([type(end) for end in found], [int, int])


class PlusTest(TableTest):
    def test_ordinary(self):
        self.check(plus, [
            ((1, 2), (10, 20), (11, 22)),
            ((-5, 3), (-1, 7), (-6, 10)),
            ((4, 4), (0, 0), (4, 4)),
        ])

    def test_at_the_limit(self):
        self.check(plus, [
            ((TOP - 1, TOP - 1), (1, 1), (TOP, TOP)),
            ((TOP - 2, TOP - 2), (1, 1), (TOP - 1, TOP - 1)),
            ((-TOP + 1, -TOP + 1), (-1, -1), (-TOP, -TOP)),
            ((-TOP + 2, -TOP + 2), (-1, -1), (-TOP + 1, -TOP + 1)),
            ((-TOP, TOP), (0, 0), (-TOP, TOP)),
        ])

    def test_wholly_beyond_is_none(self):
        self.check(plus, [
            ((TOP, TOP), (1, 1), None),
            ((TOP - 1, TOP), (2, 5), None),
            ((-TOP, -TOP), (-1, -1), None),
            ((-TOP, -TOP + 1), (-5, -2), None),
            ((TOP, TOP), (TOP, TOP), None),
        ])

    def test_partly_beyond_is_cut(self):
        self.check(plus, [
            ((TOP - 1, TOP), (1, 1), (TOP, TOP)),
            ((0, TOP), (0, 1), (0, TOP)),
            ((-TOP, -TOP + 1), (-1, -1), (-TOP, -TOP)),
            ((-TOP, 0), (-1, 0), (-TOP, 0)),
            ((-TOP, TOP), (-TOP, TOP), (-TOP, TOP)),
        ])

    def test_all_small_ones(self):
        for one in small_stretches(2):
            for other in small_stretches(2):
                sums = [a + b for a in numbers_of(one) for b in numbers_of(other)]
                self.assertEqual(plus(one, other), (min(sums), max(sums)))


class MinusTest(TableTest):
    def test_ordinary(self):
        self.check(minus, [
            ((10, 20), (1, 2), (8, 19)),
            ((-5, 3), (-1, 7), (-12, 4)),
            ((4, 4), (0, 0), (4, 4)),
        ])

    def test_at_the_limit(self):
        self.check(minus, [
            ((TOP - 1, TOP - 1), (-1, -1), (TOP, TOP)),
            ((TOP, TOP), (1, 1), (TOP - 1, TOP - 1)),
            ((-TOP + 1, -TOP + 1), (1, 1), (-TOP, -TOP)),
            ((-TOP, -TOP), (-1, -1), (-TOP + 1, -TOP + 1)),
            ((0, 0), (-TOP, TOP), (-TOP, TOP)),
        ])

    def test_wholly_beyond_is_none(self):
        self.check(minus, [
            ((TOP, TOP), (-1, -1), None),
            ((-TOP, -TOP), (1, 1), None),
            ((TOP, TOP), (-TOP, -TOP), None),
            ((-TOP, -TOP), (TOP, TOP), None),
        ])

    def test_partly_beyond_is_cut(self):
        self.check(minus, [
            ((TOP - 1, TOP), (-1, -1), (TOP, TOP)),
            ((0, TOP), (-1, 0), (0, TOP)),
            ((-TOP, -TOP + 1), (1, 1), (-TOP, -TOP)),
            ((-TOP, 0), (0, 1), (-TOP, 0)),
            ((-TOP, TOP), (-TOP, TOP), (-TOP, TOP)),
        ])

    def test_all_small_ones(self):
        for one in small_stretches(2):
            for other in small_stretches(2):
                differences = [a - b for a in numbers_of(one) for b in numbers_of(other)]
                self.assertEqual(minus(one, other), (min(differences), max(differences)))


class TimesTest(TableTest):
    def test_ordinary(self):
        self.check(times, [
            ((2, 3), (10, 20), (20, 60)),
            ((5, 5), (7, 7), (35, 35)),
            ((1, 1), (-9, 4), (-9, 4)),
        ])

    def test_ends_below_nought(self):
        self.check(times, [
            ((-3, -2), (-20, -10), (20, 60)),
            ((-3, -2), (10, 20), (-60, -20)),
            ((2, 3), (-20, -10), (-60, -20)),
        ])

    def test_across_nought(self):
        self.check(times, [
            ((-3, 2), (5, 10), (-30, 20)),
            ((-3, 2), (-10, -5), (-20, 30)),
            ((-3, 2), (-10, 5), (-20, 30)),
            ((-3, 2), (-5, 10), (-30, 20)),
            ((5, 10), (-3, 2), (-30, 20)),
        ])

    def test_at_nought(self):
        self.check(times, [
            ((0, 0), (-TOP, TOP), (0, 0)),
            ((0, 3), (-4, 5), (-12, 15)),
            ((-3, 0), (-4, 5), (-15, 12)),
            ((0, 3), (-4, 0), (-12, 0)),
            ((-3, 0), (-4, 0), (0, 12)),
        ])

    def test_at_the_limit(self):
        self.check(times, [
            ((1000, 1000), (1000, 1000), (TOP, TOP)),
            ((-1000, -1000), (1000, 1000), (-TOP, -TOP)),
            ((999, 999), (1001, 1001), (TOP - 1, TOP - 1)),
            ((-999, -999), (1001, 1001), (-TOP + 1, -TOP + 1)),
            ((TOP, TOP), (-1, 1), (-TOP, TOP)),
        ])

    def test_wholly_beyond_is_none(self):
        # 1000001 is 101 * 9901: a product one beyond the limit.
        self.check(times, [
            ((101, 101), (9901, 9901), None),
            ((-101, -101), (9901, 9901), None),
            ((TOP, TOP), (2, 3), None),
            ((-TOP, -TOP), (2, 3), None),
            ((TOP, TOP), (TOP, TOP), None),
            ((-TOP, -TOP), (TOP, TOP), None),
        ])

    def test_partly_beyond_is_cut(self):
        self.check(times, [
            ((1, 2), (TOP, TOP), (TOP, TOP)),
            ((1, 2), (-TOP, -TOP), (-TOP, -TOP)),
            ((1, 101), (1, 9901), (1, TOP)),
            ((-101, 1), (1, 9901), (-TOP, 9901)),
            ((-TOP, TOP), (-TOP, TOP), (-TOP, TOP)),
        ])

    def test_all_small_ones(self):
        for one in small_stretches(3):
            for other in small_stretches(3):
                products = [a * b for a in numbers_of(one) for b in numbers_of(other)]
                self.assertEqual(times(one, other), (min(products), max(products)))


class RestTest(TableTest):
    def test_the_same_number_of_times(self):
        self.check(rest, [
            ((11, 13), 5, (1, 3)),
            ((10, 14), 5, (0, 4)),
            ((0, 4), 5, (0, 4)),
            ((7, 7), 5, (2, 2)),
            ((3, 4), TOP, (3, 4)),
        ])

    def test_another_number_of_times(self):
        self.check(rest, [
            ((4, 5), 5, (0, 4)),
            ((11, 15), 5, (0, 4)),
            ((11, 17), 5, (0, 4)),
            ((0, TOP), TOP, (0, TOP - 1)),
        ])

    def test_ends_below_nought(self):
        self.check(rest, [
            ((-1, -1), 5, (4, 4)),
            ((-4, -2), 5, (1, 3)),
            ((-5, -1), 5, (0, 4)),
            ((-6, -5), 5, (0, 4)),
            ((-6, -3), 5, (0, 4)),
            ((-1, 0), 5, (0, 4)),
            ((-2, 2), 5, (0, 4)),
            ((-TOP, -TOP), 7, (-TOP % 7, -TOP % 7)),
        ])

    def test_by_one(self):
        self.check(rest, [
            ((7, 7), 1, (0, 0)),
            ((7, 8), 1, (0, 0)),
            ((-TOP, TOP), 1, (0, 0)),
        ])

    def test_small_ones_have_each_rest(self):
        for one in small_stretches(7):
            for by in (1, 2, 3, 5):
                found = rest(one, by)
                for number in numbers_of(one):
                    self.assertIn(number % by, numbers_of(found))

    def test_by_below_one_raises_nothing(self):
        # The document says nothing of what is given back here.
        for by in (0, -1, -5):
            rest((3, 9), by)


class JoinedTest(TableTest):
    def test_none(self):
        self.check(joined, [
            (None, None, None),
            (None, (1, 2), (1, 2)),
            ((1, 2), None, (1, 2)),
            (None, (0, 0), (0, 0)),
            ((0, 0), None, (0, 0)),
        ])

    def test_two_stretches(self):
        self.check(joined, [
            ((1, 5), (3, 9), (1, 9)),
            ((1, 3), (3, 9), (1, 9)),
            ((1, 2), (3, 4), (1, 4)),
            ((7, 9), (1, 2), (1, 9)),
            ((1, 9), (3, 4), (1, 9)),
            ((3, 4), (1, 9), (1, 9)),
            ((2, 2), (2, 2), (2, 2)),
            ((-TOP, -TOP), (TOP, TOP), (-TOP, TOP)),
        ])


class MetTest(TableTest):
    def test_none(self):
        self.check(met, [
            (None, None, None),
            (None, (1, 2), None),
            ((1, 2), None, None),
            (None, (0, 0), None),
        ])

    def test_two_stretches(self):
        self.check(met, [
            ((1, 5), (3, 9), (3, 5)),
            ((3, 9), (1, 5), (3, 5)),
            ((1, 3), (3, 9), (3, 3)),
            ((3, 9), (1, 3), (3, 3)),
            ((1, 9), (3, 4), (3, 4)),
            ((3, 4), (1, 9), (3, 4)),
            ((2, 2), (2, 2), (2, 2)),
            ((-TOP, 0), (0, TOP), (0, 0)),
        ])

    def test_beside_each_other(self):
        self.check(met, [
            ((1, 2), (3, 4), None),
            ((3, 4), (1, 2), None),
            ((1, 2), (8, 9), None),
            ((-TOP, -1), (0, TOP), None),
        ])

    def test_all_small_ones(self):
        for one in small_stretches(2):
            for other in small_stretches(2):
                both = [number for number in numbers_of(one) if number in numbers_of(other)]
                told = (min(both), max(both)) if both else None
                self.assertEqual(met(one, other), told)


class RoundedTest(TableTest):
    def test_no_marks(self):
        self.check(rounded, [
            ((3, 4), [], (-TOP, TOP)),
            ((-TOP, TOP), [], (-TOP, TOP)),
        ])

    def test_marks_at_the_ends(self):
        self.check(rounded, [
            ((3, 8), [3, 8], (3, 8)),
            ((3, 3), [3], (3, 3)),
            ((-8, -3), [-9, -8, -3, -2], (-8, -3)),
            ((-TOP, TOP), [-TOP, 0, TOP], (-TOP, TOP)),
        ])

    def test_marks_beside_the_ends(self):
        self.check(rounded, [
            ((3, 8), [2, 9], (2, 9)),
            ((3, 8), [2, 4, 7, 9], (2, 9)),
            ((3, 8), [4, 7], (-TOP, TOP)),
            ((3, 8), [2, 4], (2, TOP)),
            ((3, 8), [7, 9], (-TOP, 9)),
        ])

    def test_marks_beyond_the_ends(self):
        self.check(rounded, [
            ((3, 8), [-50, 0, 100, 200], (0, 100)),
            ((3, 8), [-50, 0], (0, TOP)),
            ((3, 8), [100, 200], (-TOP, 100)),
            ((5, 5), [0, 4, 6, 9], (4, 6)),
        ])

    def test_all_small_ones(self):
        ends = range(-3, 4)
        for sign in range(2 ** len(ends)):
            marks = [mark for at, mark in enumerate(ends) if sign & (1 << at)]
            for one in small_stretches(3):
                low = max([mark for mark in marks if mark <= one[0]], default=-TOP)
                high = min([mark for mark in marks if mark >= one[1]], default=TOP)
                self.assertEqual(rounded(one, marks), (low, high))

    def test_marks_stay_as_they_are_and_may_change_later(self):
        marks = [0, 5, 10]
        found = rounded((3, 4), marks)
        self.assertEqual(marks, [0, 5, 10])
        marks[0] = 2
        self.assertEqual(found, (0, 5))
        self.assertEqual(rounded((3, 4), marks), (2, 5))


class BeyondTheLimitTest(TableTest):
    def test_somewhat_beyond_raises_nothing(self):
        self.check(plus, [((TOP + 5, TOP + 9), (0, 0), None)])
        self.check(minus, [((-TOP - 5, 3), (0, 0), (-TOP, 3))])
        self.check(times, [((1, 1), (3, TOP + 1), (3, TOP))])
        self.check(joined, [((TOP + 1, TOP + 2), (0, 0), (0, TOP + 2))])
        self.check(met, [((3, TOP + 2), (0, TOP + 1), (3, TOP + 1))])
        self.check(rounded, [((3, TOP + 2), [0], (0, TOP))])


if __name__ == "__main__":
    unittest.main()
