"""Point 2: truth, seen, off, fits, end, origin; and 'What holds' b."""

import unittest
from fractions import Fraction
from itertools import permutations, product

from sessions import END, FITS, GREATEST, LEAST, ORIGIN, ask_marked, off, seen, truth, unmark
from views import BACK_BY_TEN, BROKEN, FALLING, HALF, INVERSE, ROAD, TURNED, UNEVEN, VIEWS


class Truth(unittest.TestCase):
    def check(self, marks, pairs):
        for t, answer in pairs:
            self.assertEqual(ask_marked(marks, truth(t)), [answer], (marks, t))

    def test_a_view_that_is_only_longer(self):
        self.check(HALF, [(0, [0, 0, 1]), (7, [0, 14, 1]), (1000, [0, 2000, 1])])

    def test_turned_and_moved(self):
        self.check(TURNED, [(0, [0, 1000, 1]), (1, [0, 999, 1]), (1000, [0, 0, 1])])
        self.check(BACK_BY_TEN, [(0, [0, 10, 1]), (1000, [0, 1010, 1])])

    def test_fractions(self):
        self.check(ROAD, [(50, [0, 100, 1]), (1, [0, 100, 99]), (40, [0, 200, 3])])

    def test_below_0(self):
        self.check(ROAD, [(101, [0, -10100, 1]), (1000, [0, -1000, 9])])
        self.check(FALLING, [(300, [0, -50, 1]), (101, [0, -100, 201])])

    def test_just_at_the_end_and_next_to_it(self):
        self.check(ROAD, [(99, [0, 9900, 1]), (100, [-6]), (101, [0, -10100, 1])])
        self.check(INVERSE, [(0, [-6]), (1, [0, 1000, 1])])

    def test_the_ends_of_the_range(self):
        for t in [-1, 1001, LEAST, GREATEST]:
            self.check(ROAD, [(t, [-22])])


class Seen(unittest.TestCase):
    def check(self, marks, pairs):
        for m, answer in pairs:
            self.assertEqual(ask_marked(marks, seen(m)), [answer], (marks, m))

    def test_a_view_that_is_only_longer(self):
        self.check(HALF, [(0, [0, 0, 1]), (7, [0, 7, 2]), (14, [0, 7, 1]), (1000, [0, 500, 1])])

    def test_below_0(self):
        self.check(BACK_BY_TEN, [(3, [0, -7, 1]), (10, [0, 0, 1]), (1000, [0, 990, 1])])
        self.check(FALLING, [(101, [0, -100, 201]), (1000, [0, -900, 11])])

    def test_fractions(self):
        self.check(ROAD, [(50, [0, 100, 3]), (1, [0, 100, 101]), (1000, [0, 1000, 11])])

    def test_beyond_all_and_next_to_it(self):
        self.check(BROKEN, [(49, [0, -4900, 1]), (50, [-6]), (51, [0, 5100, 1])])
        self.check(INVERSE, [(0, [-6]), (3, [0, 1000, 3])])

    def test_the_ends_of_the_range(self):
        for m in [-1, 1001, LEAST, GREATEST]:
            self.check(ROAD, [(m, [-22])])


class Off(unittest.TestCase):
    def test_the_first_three_are_off_by_0(self):
        for marks in VIEWS:
            self.assertEqual(ask_marked(marks, off(0), off(1), off(2)), [[0, 0, 1]] * 3, marks)

    def test_more_and_less(self):
        more = HALF + [(10, 40), (40, 20), (3, 7), (4, 7), (50, 100)]
        self.assertEqual(
            ask_marked(more, off(3), off(4), off(5), off(6), off(7)),
            [[0, 10, 1], [0, -30, 1], [0, 1, 2], [0, -1, 2], [0, 0, 1]])

    def test_seen_below_0(self):
        self.assertEqual(ask_marked(BACK_BY_TEN + [(4, 3)], off(3)), [[0, -11, 1]])

    def test_truth_seen_beyond_all(self):
        for t in [0, 7, 1000]:
            self.assertEqual(ask_marked(BROKEN + [(t, 50)], off(3)), [[-6]], t)

    def test_one_that_is_not_there(self):
        self.assertEqual(
            ask_marked(HALF + [(1, 1)], off(4), off(5), off(GREATEST)), [[-2], [-2], [-2]])


class Fits(unittest.TestCase):
    def test_three_always_fit(self):
        for marks in VIEWS:
            self.assertEqual(ask_marked(marks, FITS), [[1]], marks)

    def test_more_that_fit(self):
        self.assertEqual(ask_marked(ROAD + [(20, 25), (80, 400), (90, 900)], FITS), [[1]])

    def test_alike_to_one_of_the_three(self):
        self.assertEqual(ask_marked(ROAD + [(50, 100), (0, 0), (50, 100)], FITS), [[1]])

    def test_one_that_does_not_fit_wherever_it_stands(self):
        fitting = [(20, 25), (80, 400), (90, 900), (50, 100)]
        for place in range(5):
            marks = ROAD + fitting[:place] + [(20, 26)] + fitting[place:]
            self.assertEqual(ask_marked(marks, FITS, unmark(3 + place), FITS), [[0], [7], [1]])

    def test_wrong_on_either_side(self):
        for wrong in [(21, 25), (19, 25), (20, 24), (20, 26), (0, 25), (20, 0)]:
            self.assertEqual(ask_marked(ROAD + [wrong], FITS), [[0]], wrong)

    def test_seen_next_to_where_it_is_marked(self):
        # Seen at 7 / 2: neither number next to it is where it's seen.
        for t in [3, 4]:
            self.assertEqual(ask_marked(HALF + [(t, 7)], FITS), [[0]], t)

    def test_truth_seen_beyond_all(self):
        for t in [0, 50, 100, 1000]:
            self.assertEqual(ask_marked(BROKEN + [(t, 50)], FITS), [[0]], t)


class End(unittest.TestCase):
    def test_where_it_is_seen(self):
        for marks, answer in [
                (ROAD, [0, 100, 1]), (BROKEN, [0, 100, 1]), (INVERSE, [0, 0, 1]),
                (FALLING, [0, -100, 1]), (UNEVEN, [0, 5, 2])]:
            self.assertEqual(ask_marked(marks, END), [answer], marks)

    def test_beyond_all(self):
        for marks in [HALF, TURNED, BACK_BY_TEN]:
            self.assertEqual(ask_marked(marks, END), [[-33]], marks)

    def test_marks_behind_the_third_change_nothing(self):
        self.assertEqual(ask_marked(ROAD + [(7, 7), (8, 900)], END), [[0, 100, 1]])


class Origin(unittest.TestCase):
    def test_what_is_in_truth_there(self):
        for marks, answer in [
                (ROAD, [0, -100, 1]), (BROKEN, [0, 50, 1]), (INVERSE, [0, 0, 1]),
                (FALLING, [0, -100, 1]), (UNEVEN, [0, -3, 2])]:
            self.assertEqual(ask_marked(marks, ORIGIN), [answer], marks)

    def test_a_view_that_is_only_longer(self):
        for marks in [HALF, TURNED, BACK_BY_TEN]:
            self.assertEqual(ask_marked(marks, ORIGIN, END), [[-33], [-33]], marks)

    def test_it_is_seen_beyond_all(self):
        for marks, m in [(BROKEN, 50), (INVERSE, 0)]:
            self.assertEqual(ask_marked(marks, ORIGIN, seen(m)), [[0, m, 1], [-6]], marks)

    def test_it_is_the_end_with_picture_and_truth_exchanged(self):
        for marks in VIEWS:
            exchanged = [(m, t) for t, m in marks]
            self.assertEqual(ask_marked(marks, ORIGIN), ask_marked(exchanged, END), marks)
            self.assertEqual(ask_marked(marks, END), ask_marked(exchanged, ORIGIN), marks)

    def test_marks_behind_the_third_change_nothing(self):
        self.assertEqual(ask_marked(ROAD + [(7, 7), (8, 900)], ORIGIN), [[0, -100, 1]])


class OthersBecomeTheFirstThree(unittest.TestCase):
    def test_all_is_told_by_the_new_view(self):
        marks = [(999, 0)] + ROAD
        answers = ask_marked(marks, unmark(0), truth(50), seen(50), off(2), FITS, END, ORIGIN)
        self.assertEqual(
            answers, [[3], [0, 100, 1], [0, 100, 3], [0, 0, 1], [1], [0, 100, 1], [0, -100, 1]])

    def test_another_view_before(self):
        marks = HALF[:2] + [(5, 40), (30, 60)]
        # The first view is t = 10 m / (3 m - 40), the second HALF's.
        self.assertEqual(
            ask_marked(marks, END, FITS, unmark(2), END, FITS),
            [[0, 10, 3], [0], [3], [-33], [1]])


def double_ratio_sides(a, b, c, d):
    """What stands above and below in the double ratio of four points that aren't beyond all."""
    return (c - a) * (d - b), (d - a) * (c - b)


def double_ratio_sides_beyond(a, b, c):
    """The same with the fourth beyond all: what's told of it is left out."""
    return c - a, c - b


class ThreeMarksTellAll(unittest.TestCase):
    """Held against the double ratio, which every view keeps and which only one fourth point has."""

    PLACES = [0, 1, 2, 5, 9]
    ASKED = [0, 1, 2, 3, 4, 5, 9, 10, 1000]

    def same_double_ratio(self, from_three, place, to_three, answer):
        above, below = double_ratio_sides(*from_three, place)
        if answer == [-6]:
            other_above, other_below = double_ratio_sides_beyond(*to_three)
        else:
            self.assertEqual(answer[0], 0)
            other_above, other_below = double_ratio_sides(*to_three, Fraction(answer[1], answer[2]))
        self.assertEqual(above * other_below, below * other_above, (from_three, place, to_three))

    def in_lowest_form(self, answer):
        if answer[0] == 0:
            point = Fraction(answer[1], answer[2])
            self.assertEqual(answer[1:], [point.numerator, point.denominator])

    def test_truth_and_seen_keep_the_double_ratio(self):
        sources = list(permutations(self.PLACES, 3))
        for ts, ms in product(sources, sources[::7]):
            calls = [truth(k) for k in self.ASKED] + [seen(k) for k in self.ASKED]
            answers = ask_marked(zip(ts, ms), *calls)
            for k, back, there in zip(self.ASKED, answers, answers[len(self.ASKED):]):
                self.same_double_ratio(ts, k, ms, back)
                self.same_double_ratio(ms, k, ts, there)
                self.in_lowest_form(back)
                self.in_lowest_form(there)

    def beyond_all_keeps_the_double_ratio(self, from_three, to_three, answer):
        above, below = double_ratio_sides_beyond(*from_three)
        if answer == [-33]:
            other_above, other_below = double_ratio_sides_beyond(*to_three)
        else:
            self.in_lowest_form(answer)
            other_above, other_below = double_ratio_sides(*to_three, Fraction(answer[1], answer[2]))
        self.assertEqual(above * other_below, below * other_above, (from_three, to_three))

    def test_end_and_origin_keep_the_double_ratio(self):
        sources = list(permutations(self.PLACES, 3))
        for ts, ms in product(sources, sources[::7]):
            end, origin = ask_marked(zip(ts, ms), END, ORIGIN)
            self.beyond_all_keeps_the_double_ratio(ms, ts, end)
            self.beyond_all_keeps_the_double_ratio(ts, ms, origin)

    def test_seen_as_they_are_marked(self):
        for marks in VIEWS:
            for t, m in marks:
                self.assertEqual(ask_marked(marks, seen(m), truth(t)), [[0, t, 1], [0, m, 1]])

    def test_there_and_back_the_same(self):
        for marks in VIEWS:
            for m in range(1001):
                there = ask_marked(marks, seen(m))[0]
                if there[0] == 0 and there[2] == 1 and 0 <= there[1] <= 1000:
                    self.assertEqual(ask_marked(marks, truth(there[1])), [[0, m, 1]])

    def test_the_order_of_the_three_changes_nothing(self):
        for marks in VIEWS:
            calls = [truth(3), truth(100), seen(3), seen(50), FITS, END, ORIGIN]
            expected = ask_marked(marks, *calls)
            for order in permutations(marks):
                self.assertEqual(ask_marked(order, *calls), expected, order)

    def test_numbers_greater_than_those_handed_in(self):
        # t = 1000 m / (999001 m - 998001000)
        marks = [(0, 0), (1, 1000), (1000, 999)]
        self.assertEqual(
            ask_marked(marks, truth(999), seen(1), END, ORIGIN),
            [[0, 997002999000, 998000999], [0, -1000, 997001999], [0, 1000, 999001],
             [0, 998001000, 999001]])


if __name__ == "__main__":
    unittest.main()
