"""Point 3: between and middle."""

import unittest

from sessions import GREATEST, LEAST, ask_many, ask_marked, between, middle
from views import (
    BACK_BY_TEN, BEYOND, BROKEN, FALLING, HALF, INVERSE, NUMBERED_VIEWS, ROAD, TURNED, UNEVEN, seen_by, told,
    true_by)

PLACES = [0, 1, 2, 3, 10, 50, 75, 99, 100, 101, 200, 500, 1000]
COUPLES = [(t, u) for t in PLACES for u in PLACES]


class Checked(unittest.TestCase):
    def check(self, marks, pairs):
        for call, answer in pairs:
            self.assertEqual(ask_marked(marks, call), [answer], (marks, call))


class Between(Checked):
    def test_whole(self):
        self.check(HALF, [(between(0, 1000), [0, 2000, 1]), (between(7, 10), [0, 6, 1])])
        self.check(BACK_BY_TEN, [(between(0, 1000), [0, 1000, 1]), (between(999, 1000), [0, 1, 1])])
        self.check(ROAD, [(between(50, 75), [0, 200, 1])])

    def test_fractions(self):
        self.check(ROAD, [(between(0, 1), [0, 100, 99]), (between(40, 50), [0, 100, 3])])
        self.check(UNEVEN, [(between(0, 4), [0, -4, 1]), (between(1, 3), [0, -10, 1]), (between(0, 10), [0, -2, 1])])

    def test_below_0(self):
        self.check(HALF, [(between(10, 7), [0, -6, 1])])
        self.check(TURNED, [(between(0, 1000), [0, -1000, 1]), (between(3, 1), [0, 2, 1])])
        self.check(ROAD, [(between(1, 0), [0, -100, 99]), (between(99, 101), [0, -20000, 1])])

    def test_0(self):
        for marks in [HALF, TURNED, ROAD, BROKEN, FALLING]:
            self.check(marks, [(between(t, t), [0, 0, 1]) for t in [0, 7, 1000]])

    def test_one_beyond_all_in_truth(self):
        self.check(ROAD, [(between(100, 0), [-6]), (between(0, 100), [-6]), (between(100, 1000), [-6])])
        self.check(INVERSE, [(between(0, 5), [-6]), (between(5, 0), [-6])])

    def test_both_beyond_all_in_truth(self):
        self.check(ROAD, [(between(100, 100), [-6])])
        self.check(INVERSE, [(between(0, 0), [-6])])

    def test_next_to_beyond_all(self):
        self.check(ROAD, [(between(99, 98), [0, -5000, 1]), (between(102, 101), [0, -5000, 1])])

    def test_out_of_range(self):
        for far in [-1, 1001, LEAST, GREATEST]:
            self.check(ROAD, [(between(far, 5), [-22]), (between(5, far), [-22]), (between(far, far), [-22])])

    def test_out_of_range_is_named_ahead_of_beyond_all(self):
        self.check(ROAD, [(between(100, -1), [-22]), (between(1001, 100), [-22])])

    def test_each_couple_of_each_view(self):
        for marks, numbers in NUMBERED_VIEWS:
            answers = ask_many(marks, [between(t, u) for t, u in COUPLES])
            for (t, u), answer in zip(COUPLES, answers):
                first = true_by(numbers, t)
                second = true_by(numbers, u)
                length = BEYOND if BEYOND in (first, second) else second - first
                self.assertEqual(answer, told(length), (marks, t, u))


class Middle(Checked):
    def test_whole(self):
        self.check(HALF, [(middle(0, 1000), [0, 500, 1]), (middle(7, 9), [0, 8, 1])])
        self.check(ROAD, [(middle(0, 75), [0, 60, 1])])

    def test_fractions(self):
        self.check(HALF, [(middle(0, 1), [0, 1, 2]), (middle(10, 7), [0, 17, 2])])
        self.check(ROAD, [(middle(0, 50), [0, 100, 3]), (middle(50, 75), [0, 200, 3])])

    def test_0_and_below_0(self):
        # In truth 300 and -300; 150 and -300.
        self.check(ROAD, [(middle(75, 150), [0, 0, 1]), (middle(60, 150), [0, -300, 1])])
        # In truth 0 and 75.
        self.check(BROKEN, [(middle(0, 300), [0, -300, 1])])

    def test_on_the_other_side_of_the_end(self):
        self.check(ROAD, [(middle(0, 150), [0, 300, 1]), (middle(80, 1000), [0, 650, 11])])
        self.check(BROKEN, [(middle(0, 150), [0, 300, 1])])

    def test_in_either_order(self):
        self.check(ROAD, [(middle(75, 50), [0, 200, 3]), (middle(75, 0), [0, 60, 1])])

    def test_of_a_point_and_itself(self):
        for marks in [HALF, TURNED, ROAD, BROKEN, FALLING]:
            self.check(marks, [(middle(t, t), [0, t, 1]) for t in [0, 7, 99, 1000]])

    def test_one_beyond_all_in_truth(self):
        self.check(ROAD, [(middle(100, 0), [-6]), (middle(0, 100), [-6]), (middle(100, 1000), [-6])])
        self.check(INVERSE, [(middle(0, 5), [-6]), (middle(5, 0), [-6])])

    def test_both_beyond_all_in_truth(self):
        self.check(ROAD, [(middle(100, 100), [-6])])
        self.check(INVERSE, [(middle(0, 0), [-6])])

    def test_seen_beyond_all(self):
        # In truth 0 and 100: the middle is 50.
        self.check(BROKEN, [(middle(0, 200), [-33]), (middle(200, 0), [-33])])
        # In truth 100 and -300: the middle is -100.
        self.check(ROAD, [(middle(50, 150), [-33]), (middle(150, 50), [-33])])

    def test_next_to_what_is_seen_beyond_all(self):
        self.check(BROKEN, [(middle(0, 199), [0, 19900, 1]), (middle(1, 200), [0, -19700, 1])])

    def test_out_of_range(self):
        for far in [-1, 1001, LEAST, GREATEST]:
            self.check(ROAD, [(middle(far, 5), [-22]), (middle(5, far), [-22]), (middle(far, far), [-22])])

    def test_out_of_range_is_named_ahead_of_beyond_all(self):
        self.check(ROAD, [(middle(100, -1), [-22]), (middle(1001, 100), [-22])])

    def test_each_couple_of_each_view(self):
        for marks, numbers in NUMBERED_VIEWS:
            answers = ask_many(marks, [middle(t, u) for t, u in COUPLES])
            for (t, u), answer in zip(COUPLES, answers):
                first = true_by(numbers, t)
                second = true_by(numbers, u)
                if BEYOND in (first, second):
                    self.assertEqual(answer, [-6], (marks, t, u))
                else:
                    place = seen_by(numbers, (first + second) / 2)
                    self.assertEqual(answer, told(place, -33), (marks, t, u))

    def test_as_far_from_either(self):
        # Where the middle is seen at a whole number of the range, between tells both halves.
        for marks, numbers in NUMBERED_VIEWS:
            for t, u in COUPLES:
                answer = ask_marked(marks, middle(t, u))[0]
                if answer[0] == 0 and answer[2] == 1 and 0 <= answer[1] <= 1000:
                    halves = ask_marked(marks, between(t, answer[1]), between(answer[1], u))
                    self.assertEqual(halves[0], halves[1], (marks, t, u))


class Great(Checked):
    def test_numbers_greater_than_those_handed_in(self):
        # t = 1000 m / (999001 m - 998001000)
        marks = [(0, 0), (1, 1000), (1000, 999)]
        self.check(marks, [
            (between(2, 999), [0, -497503498500000, 996504995502499]),
            (between(999, 2), [0, 497503498500000, 996504995502499]),
            (middle(2, 999), [0, 3991006996, 999998001])])


if __name__ == "__main__":
    unittest.main()
