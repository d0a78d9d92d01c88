"""'What holds', a to e, over several views and points; b is held in test_view.py too."""

import unittest
from fractions import Fraction
from itertools import permutations, product

from sessions import START, ask, ask_many, ask_marked, double, even, fourth, keeps, middle, seen, six, truth
from views import BEYOND, BROKEN, HALF, INVERSE, ROAD, TURNED, VIEWS, point_of, ratio_sides

THREES = list(permutations([0, 1, 2, 5, 9, 1000], 3))
FOURS = list(permutations([0, 1, 3, 4, 12, 999, 1000], 4))


def within(point):
    """Whether it can be handed in."""
    return point is not BEYOND and point.denominator == 1 and 0 <= point <= 1000


def ratios_of(orders):
    """What double tells of each of these."""
    return [point_of(answer) for answer in ask_many([], [double(*order) for order in orders])]


class EveryViewKeepsDoubleRatios(unittest.TestCase):
    """a."""

    # 0 and 100 are ends of some of the views.
    PLACES = [0, 1, 50, 60, 100, 300, 1000]

    def test_of_four_different_ones(self):
        fours = list(permutations(self.PLACES, 4))
        expected = ask_many([], [double(*four) for four in fours])
        for marks in VIEWS:
            self.assertEqual(ask_many(marks, [keeps(*four) for four in fours]), expected, marks)

    def test_with_some_alike(self):
        fours = list(product([0, 7, 100], repeat=4))
        expected = ask_many([], [double(*four) for four in fours])
        for marks in VIEWS:
            self.assertEqual(ask_many(marks, [keeps(*four) for four in fours]), expected, marks)

    def test_of_what_is_seen(self):
        # Held against the answers of seen, not of keeps.
        for marks in VIEWS:
            for four in permutations([0, 2, 50, 400], 4):
                pictured = [point_of(answer) for answer in ask_marked(marks, *[seen(m) for m in four])]
                above, below = ratio_sides(*four)
                other_above, other_below = ratio_sides(*pictured)
                self.assertEqual(above * other_below, below * other_above, (marks, four))


class ThereAndBack(unittest.TestCase):
    """b."""

    def test_three_marks_are_seen_as_they_are_marked(self):
        for ts, ms in product(THREES[::5], THREES[::7]):
            calls = [seen(m) for m in ms] + [truth(t) for t in ts]
            told = [[0, t, 1] for t in ts] + [[0, m, 1] for m in ms]
            self.assertEqual(ask_marked(zip(ts, ms), *calls), told, (ts, ms))

    def test_no_other_view_does(self):
        # A fourth mark that the view tells makes, with any two of the three, the same view.
        for marks in VIEWS:
            places = [t for t in range(1001) if t not in dict(marks)]
            points = [point_of(answer) for answer in ask_many(marks, [truth(t) for t in places])]
            more = [(t, int(m)) for t, m in zip(places, points) if within(m)][:3]
            calls = [truth(3), truth(100), truth(1000), seen(3), seen(50), seen(999)]
            expected = ask_marked(marks, *calls)
            for three in permutations(marks + more, 3):
                self.assertEqual(ask_marked(three, *calls), expected, three)


class TheFourthHasThatDoubleRatio(unittest.TestCase):
    """c."""

    RATIOS = [(0, 1), (1, 0), (1, 1), (2, 1), (1, 2), (3, 7), (1000, 999), (1, 1000), (6, 4), (500, 250)]

    def test_by_the_words(self):
        cases = list(product(THREES, self.RATIOS))
        answers = ask_many([], [fourth(*three, *ratio) for three, ratio in cases])
        for (three, (p, q)), answer in zip(cases, answers):
            above, below = ratio_sides(*three, point_of(answer))
            self.assertEqual(above * q, below * p, (three, p, q))
            self.assertNotEqual((above, below), (0, 0), (three, p, q))

    def test_double_tells_it_again(self):
        found = 0
        for three, (p, q) in product(THREES, self.RATIOS):
            point = point_of(ask(START, fourth(*three, p, q))[1])
            if within(point):
                found += 1
                again = point_of(ask(START, double(*three, int(point)))[1])
                self.assertEqual(again, BEYOND if q == 0 else Fraction(p, q), (three, p, q))
        self.assertGreater(found, 3 * len(THREES))

    def test_fourth_tells_the_fourth_of_a_double_ratio_again(self):
        found = 0
        for a, b, c, d in FOURS:
            ratio = ask(START, double(a, b, c, d))[1]
            if 0 <= ratio[1] <= 1000 and ratio[2] <= 1000:
                found += 1
                self.assertEqual(ask(START, fourth(a, b, c, ratio[1], ratio[2]))[1], [0, d, 1], (a, b, c, d))
        self.assertGreater(found, 50)


class EvenlyParted(unittest.TestCase):
    """d."""

    def test_their_double_ratio_is_less_1(self):
        for three, answer in zip(THREES, ask_many([], [even(*three) for three in THREES])):
            above, below = ratio_sides(*three, point_of(answer))
            self.assertEqual(above, -below, three)
            self.assertNotEqual(below, 0, three)

    def test_of_two_points_and_their_middle_it_is_beyond_all(self):
        for a, b in [(0, 1000), (1000, 0), (3, 5), (1, 599), (1000, 998), (998, 0)]:
            self.assertEqual(ask(START, even(a, b, (a + b) // 2))[1], [-6], (a, b))

    def test_only_of_the_middle_it_is_beyond_all(self):
        for c in range(1, 20):
            answer = ask(START, even(0, 20, c))[1]
            self.assertEqual(answer == [-6], c == 10, c)

    def test_the_middle_that_a_view_that_is_only_longer_tells(self):
        for marks in [HALF, TURNED]:
            for a, b in [(0, 500), (500, 0), (2, 8), (1000, 998)]:
                told = ask_marked(marks, middle(a, b))[0]
                self.assertEqual(told[2], 1)
                self.assertEqual(ask_marked(marks, even(a, b, told[1])), [[-6]], (marks, a, b))

    def test_the_middle_in_the_picture_and_the_end_part_evenly(self):
        # In truth they're two points, their middle and beyond all: a view keeps their double ratio.
        for marks, end in [(ROAD, 100), (BROKEN, 100), (INVERSE, 0)]:
            found = 0
            for a, b in product(range(1, 100), range(1, 100)):
                told = ask_marked(marks, middle(a, b))[0]
                if a != b and told[0] == 0 and told[2] == 1 and 0 <= told[1] <= 1000:
                    found += 1
                    self.assertEqual(ask_marked(marks, even(a, b, told[1])), [[0, end, 1]], (marks, a, b))
            self.assertGreater(found, 5, marks)

    def test_two_couples_part_each_other_alike(self):
        found = 0
        for a, b, c in permutations([0, 2, 3, 4, 6, 12, 30, 60, 1000], 3):
            point = point_of(ask(START, even(a, b, c))[1])
            if within(point):
                found += 1
                d = int(point)
                self.assertEqual(
                    ask(START, double(a, b, c, d), even(c, d, a), even(c, d, b), even(a, b, d), even(b, a, c))[1:],
                    [[0, -1, 1], [0, b, 1], [0, a, 1], [0, c, 1], [0, d, 1]], (a, b, c, d))
        self.assertGreater(found, 30)


class SixValues(unittest.TestCase):
    """e."""

    def test_how_the_orders_hang_together(self):
        for a, b, c, d in FOURS:
            ratio, both, couples, all_turned, first, second, middle_ones = ratios_of([
                (a, b, c, d), (b, a, d, c), (c, d, a, b), (d, c, b, a), (b, a, c, d), (a, b, d, c), (a, c, b, d)])
            self.assertEqual([both, couples, all_turned], [ratio] * 3, (a, b, c, d))
            self.assertEqual([first, second], [1 / ratio] * 2, (a, b, c, d))
            self.assertEqual(middle_ones, 1 - ratio, (a, b, c, d))

    def test_how_the_six_hang_together(self):
        for four, answer in zip(FOURS, ask_many([], [six(*four) for four in FOURS])):
            self.assertEqual((answer[0], len(answer)), (0, 13), four)
            told = [Fraction(answer[k], answer[k + 1]) for k in range(1, 13, 2)]
            self.assertEqual(answer[1:], [side for one in told for side in (one.numerator, one.denominator)], four)
            ratio = told[0]
            self.assertEqual(
                told,
                [ratio, 1 / ratio, 1 - ratio, 1 / (1 - ratio), 1 - 1 / ratio, ratio / (ratio - 1)], four)

    def test_no_other_values_in_all_orders(self):
        for four in FOURS[::11]:
            answer = ask(START, six(*four))[1]
            told = {Fraction(answer[k], answer[k + 1]) for k in range(1, 13, 2)}
            self.assertEqual(set(ratios_of(permutations(four))), told, four)


if __name__ == "__main__":
    unittest.main()
