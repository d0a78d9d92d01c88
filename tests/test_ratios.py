"""Point 4: double, keeps, six, fourth, even."""

import unittest
from itertools import product

from sessions import (
    GREATEST, LEAST, START, ask, ask_many, ask_marked, ask_one, double, even, fourth, keeps, six)
from views import BROKEN, HALF, INVERSE, NUMBERED_VIEWS, ROAD, UNEVEN, VIEWS, told_ratio, true_by

OUT_OF_RANGE = [-1, 1001, LEAST, GREATEST]

# Of x, y, z, all different: the answer with just these alike, wherever x, y, z are.
TWO_ALIKE = [
    ("a and b", lambda x, y, z: (x, x, y, z), [0, 1, 1]),
    ("a and c", lambda x, y, z: (x, y, x, z), [0, 0, 1]),
    ("a and d", lambda x, y, z: (x, y, z, x), [-6]),
    ("b and c", lambda x, y, z: (y, x, x, z), [-6]),
    ("b and d", lambda x, y, z: (y, x, z, x), [0, 0, 1]),
    ("c and d", lambda x, y, z: (y, z, x, x), [0, 1, 1])]

# The same with two couples of alike ones.
TWO_COUPLES = [
    ("a and b, c and d", lambda x, y: (x, x, y, y), [0, 1, 1]),
    ("a and c, b and d", lambda x, y: (x, y, x, y), [0, 0, 1]),
    ("a and d, b and c", lambda x, y: (x, y, y, x), [-6])]

THREE_ALIKE = [
    lambda x, y: (x, x, x, y), lambda x, y: (x, x, y, x), lambda x, y: (x, y, x, x),
    lambda x, y: (y, x, x, x), lambda x, y: (x, x, x, x)]


def each_wrong(call):
    """The call with each of its numbers, one at a time, out of range."""
    return [
        call[:place] + [far] + call[place + 1:] for place in range(1, len(call)) for far in OUT_OF_RANGE]


class Checked(unittest.TestCase):
    def check(self, pairs):
        for call, answer in pairs:
            self.assertEqual(ask_one(call), answer, call)

    def check_marked(self, marks, pairs):
        for call, answer in pairs:
            self.assertEqual(ask_marked(marks, call), [answer], (marks, call))


class Double(Checked):
    def test_whole(self):
        self.check([(double(0, 3, 4, 6), [0, 2, 1]), (double(0, 2, 3, 6), [0, 2, 1])])

    def test_fractions(self):
        self.check([
            (double(0, 1, 2, 3), [0, 4, 3]), (double(1, 2, 3, 7), [0, 5, 3]), (double(0, 1, 3, 2), [0, 3, 4]),
            (double(0, 1, 3, 9), [0, 4, 3])])

    def test_below_0(self):
        self.check([
            (double(0, 2, 1, 3), [0, -1, 3]), (double(0, 2, 3, 1), [0, -3, 1]), (double(0, 6, 4, 12), [0, -1, 1])])

    def test_the_ends_of_the_range(self):
        self.check([
            (double(0, 1, 999, 1000), [0, 998001, 998000]), (double(1000, 999, 1, 0), [0, 998001, 998000]),
            (double(0, 1000, 1, 999), [0, 1, 998001]), (double(0, 1000, 0, 1000), [0, 0, 1])])

    def test_each_number_out_of_range(self):
        self.check([(call, [-22]) for call in each_wrong(double(1, 2, 3, 4))])

    def test_two_alike(self):
        for name, placed, answer in TWO_ALIKE:
            for three in [(5, 7, 9), (9, 5, 7), (0, 1000, 1), (1000, 0, 999)]:
                self.assertEqual(ask_one(double(*placed(*three))), answer, (name, three))

    def test_two_couples_alike(self):
        for name, placed, answer in TWO_COUPLES:
            for two in [(5, 7), (7, 5), (0, 1000)]:
                self.assertEqual(ask_one(double(*placed(*two))), answer, (name, two))

    def test_three_alike(self):
        for placed in THREE_ALIKE:
            for two in [(5, 7), (7, 5), (0, 1000), (1000, 0)]:
                self.assertEqual(ask_one(double(*placed(*two))), [-22], placed(*two))

    def test_out_of_range_is_named_ahead_of_what_is_below_being_0(self):
        self.check([
            (double(1, 2, -1, 1), [-22]), (double(-1, 2, 2, 3), [-22]), (double(-1, 2, 3, -1), [-22]),
            (double(2, 1001, 1001, 3), [-22])])

    def test_each_four_of_some(self):
        places = [0, 1, 2, 5, 999, 1000]
        fours = [four for four in product(places, repeat=4) if max(four.count(place) for place in four) < 3]
        for four, answer in zip(fours, ask_many([], [double(*four) for four in fours])):
            self.assertEqual(answer, told_ratio(*four), four)

    def test_marks_change_nothing(self):
        for marks in VIEWS:
            self.check_marked(marks, [(double(0, 1, 2, 3), [0, 4, 3]), (double(0, 50, 75, 100), [0, 3, 2])])


class Keeps(Checked):
    def test_ordinary(self):
        self.check_marked(ROAD, [
            (keeps(0, 50, 75, 80), [0, 9, 8]), (keeps(0, 1, 2, 3), [0, 4, 3]), (keeps(0, 2, 1, 3), [0, -1, 3]),
            (keeps(0, 3, 4, 6), [0, 2, 1])])

    def test_a_point_beyond_all_in_truth(self):
        # In truth 0, 100, 300 and beyond all.
        self.check_marked(ROAD, [
            (keeps(0, 50, 75, 100), [0, 3, 2]), (keeps(0, 50, 100, 75), [0, 2, 3]),
            (keeps(0, 100, 50, 75), [0, 1, 3]), (keeps(100, 0, 50, 75), [0, 3, 1])])

    def test_the_ends_of_the_range(self):
        for marks in VIEWS:
            self.check_marked(marks, [(keeps(0, 1, 999, 1000), [0, 998001, 998000])])

    def test_each_number_out_of_range(self):
        self.check_marked(ROAD, [(call, [-22]) for call in each_wrong(keeps(1, 2, 3, 4))])

    def test_two_alike(self):
        for name, placed, answer in TWO_ALIKE:
            for marks, three in product(VIEWS, [(5, 7, 9), (9, 5, 7), (0, 1000, 1), (1000, 0, 999)]):
                self.assertEqual(ask_marked(marks, keeps(*placed(*three))), [answer], (name, marks, three))

    def test_two_alike_that_are_beyond_all_in_truth(self):
        for name, placed, answer in TWO_ALIKE:
            for marks, end in [(ROAD, 100), (BROKEN, 100), (INVERSE, 0)]:
                for others in [(5, 7), (7, 5), (1000, 1)]:
                    call = keeps(*placed(end, *others))
                    self.assertEqual(ask_marked(marks, call), [answer], (name, marks, call))

    def test_two_alike_and_another_beyond_all_in_truth(self):
        for name, placed, answer in TWO_ALIKE:
            for marks, end in [(ROAD, 100), (BROKEN, 100), (INVERSE, 0)]:
                for call in [keeps(*placed(5, end, 7)), keeps(*placed(5, 7, end))]:
                    self.assertEqual(ask_marked(marks, call), [answer], (name, marks, call))

    def test_two_couples_alike(self):
        for name, placed, answer in TWO_COUPLES:
            for marks, two in product(VIEWS, [(5, 7), (7, 5), (100, 0), (0, 100)]):
                self.assertEqual(ask_marked(marks, keeps(*placed(*two))), [answer], (name, marks, two))

    def test_three_alike(self):
        for placed in THREE_ALIKE:
            for marks, two in product(VIEWS, [(5, 7), (7, 5), (100, 0), (0, 100)]):
                self.assertEqual(ask_marked(marks, keeps(*placed(*two))), [[-22]], (marks, two))

    def test_what_is_named_first(self):
        self.assertEqual(
            ask(START, keeps(0, 1, 2, -1), keeps(0, 0, 0, 1), keeps(0, 1, 2, 0), keeps(0, 1, 2, 3))[1:],
            [[-22], [-22], [-16], [-16]])
        self.check_marked(ROAD, [
            (keeps(-1, 0, 0, 1), [-22]), (keeps(0, 1, 1001, 0), [-22]), (keeps(-1, 1, 2, -1), [-22])])

    def test_each_four_of_some_is_the_double_ratio_in_truth(self):
        places = [0, 1, 50, 99, 100, 1000]
        fours = [four for four in product(places, repeat=4) if max(four.count(place) for place in four) < 3]
        for marks, numbers in NUMBERED_VIEWS:
            for four, answer in zip(fours, ask_many(marks, [keeps(*four) for four in fours])):
                in_truth = [true_by(numbers, t) for t in four]
                self.assertEqual(answer, told_ratio(*in_truth), (marks, four))


class Six(Checked):
    def test_ordinary(self):
        self.check([
            (six(0, 1, 2, 3), [0, 4, 3, 3, 4, -1, 3, -3, 1, 1, 4, 4, 1]),
            (six(3, 1, 0, 2), [0, -3, 1, -1, 3, 4, 1, 1, 4, 4, 3, 3, 4]),
            (six(1, 2, 3, 7), [0, 5, 3, 3, 5, -2, 3, -3, 2, 2, 5, 5, 2])])

    def test_evenly_parted(self):
        self.check([(six(0, 6, 4, 12), [0, -1, 1, -1, 1, 2, 1, 1, 2, 2, 1, 1, 2])])

    def test_the_ends_of_the_range(self):
        self.check([
            (six(0, 1000, 1, 999),
             [0, 1, 998001, 998001, 1, 998000, 998001, 998001, 998000, -998000, 1, -1, 998000])])

    def test_each_number_out_of_range(self):
        self.check([(call, [-22]) for call in each_wrong(six(1, 2, 3, 4))])

    def test_two_alike(self):
        for name, placed, answer in TWO_ALIKE:
            for three in [(5, 7, 9), (9, 5, 7), (0, 1000, 1)]:
                self.assertEqual(ask_one(six(*placed(*three))), [-17], (name, three))

    def test_more_alike(self):
        for name, placed, answer in TWO_COUPLES:
            self.assertEqual(ask_one(six(*placed(5, 7))), [-17], name)
        for placed in THREE_ALIKE:
            self.assertEqual(ask_one(six(*placed(5, 7))), [-17])

    def test_out_of_range_is_named_ahead_of_alike(self):
        self.check([
            (six(1, 1, 2, -1), [-22]), (six(1001, 1, 2, 2), [-22]), (six(-1, -1, 2, 3), [-22]),
            (six(1001, 1001, 1001, 1001), [-22])])

    def test_what_double_tells_in_these_orders(self):
        for a, b, c, d in [(0, 1, 2, 3), (7, 1, 1000, 4), (900, 30, 31, 0), (5, 3, 8, 1), (1000, 999, 1, 0)]:
            orders = [
                double(a, b, c, d), double(a, b, d, c), double(a, c, b, d),
                double(a, c, d, b), double(a, d, b, c), double(a, d, c, b)]
            expected = [0]
            for answer in ask(START, *orders)[1:]:
                self.assertEqual(answer[0], 0)
                expected += answer[1:]
            self.assertEqual(ask_one(six(a, b, c, d)), expected, (a, b, c, d))


class Fourth(Checked):
    def test_whole(self):
        self.check([(fourth(0, 1, 2, 4, 3), [0, 3, 1]), (fourth(0, 3, 4, 2, 1), [0, 6, 1])])

    def test_fractions_and_below_0(self):
        # 2 (d - 1) 5 = d; 2 (d - 1) = 3 d; 2 (d - 1) = 7 d
        self.check([
            (fourth(0, 1, 2, 1, 5), [0, 10, 9]), (fourth(0, 1, 2, 3, 1), [0, -2, 1]),
            (fourth(0, 1, 2, 7, 1), [0, -2, 5])])

    def test_0(self):
        # 3 (d - 2) = 3 (d - 1) 2
        self.check([(fourth(1, 2, 4, 3, 1), [0, 0, 1])])

    def test_a_ratio_that_is_not_in_lowest_form(self):
        self.check([(fourth(0, 1, 2, 400, 300), [0, 3, 1]), (fourth(0, 1, 2, 1000, 750), [0, 3, 1])])

    def test_the_ends_of_the_range(self):
        self.check([
            (fourth(0, 1000, 500, 1000, 1), [0, 1000, 1001]), (fourth(0, 1000, 500, 1, 1000), [0, 1000000, 1001]),
            (fourth(1000, 0, 500, 1000, 1), [0, 1000000, 1001]), (fourth(0, 1000, 1, 1000, 1000), [0, 1, 1])])

    def test_each_number_out_of_range(self):
        self.check([(call, [-22]) for call in each_wrong(fourth(1, 2, 3, 4, 5))])

    def test_p_or_q_out_of_range_beside_0(self):
        for far in OUT_OF_RANGE:
            self.check([(fourth(1, 2, 3, far, 0), [-22]), (fourth(1, 2, 3, 0, far), [-22])])

    def test_p_and_q_both_0(self):
        self.check([(fourth(1, 2, 3, 0, 0), [-22]), (fourth(0, 1000, 500, 0, 0), [-22])])

    def test_q_0_is_a(self):
        for p in [1, 7, 1000]:
            self.check([(fourth(5, 7, 9, p, 0), [0, 5, 1]), (fourth(1000, 0, 1, p, 0), [0, 1000, 1]),
                        (fourth(0, 6, 3, p, 0), [0, 0, 1])])

    def test_p_0_is_b(self):
        for q in [1, 7, 1000]:
            self.check([(fourth(5, 7, 9, 0, q), [0, 7, 1]), (fourth(1000, 0, 1, 0, q), [0, 0, 1]),
                        (fourth(0, 6, 3, 0, q), [0, 6, 1])])

    def test_p_and_q_alike_is_c(self):
        for p in [1, 7, 1000]:
            self.check([(fourth(5, 7, 9, p, p), [0, 9, 1]), (fourth(1000, 0, 1, p, p), [0, 1, 1]),
                        (fourth(0, 6, 3, p, p), [0, 3, 1])])

    def test_beyond_all_and_next_to_it(self):
        # Without d: (c - a) q = p (c - b).
        self.check([
            (fourth(0, 1, 2, 2, 1), [-6]), (fourth(0, 1, 2, 1000, 500), [-6]), (fourth(1, 0, 2, 1, 2), [-6]),
            (fourth(0, 999, 1000, 1000, 1), [-6]), (fourth(0, 1, 2, 999, 500), [0, 1000, 1]),
            (fourth(0, 1, 2, 501, 250), [0, -500, 1])])

    def test_two_alike(self):
        for p, q in [(1, 2), (2, 1), (0, 1), (1, 0), (1, 1)]:
            self.check([
                (fourth(5, 5, 7, p, q), [-17]), (fourth(5, 7, 5, p, q), [-17]), (fourth(7, 5, 5, p, q), [-17]),
                (fourth(5, 5, 5, p, q), [-17])])

    def test_p_or_q_like_one_of_the_three_does_no_harm(self):
        self.check([(fourth(1, 2, 4, 1, 2), [0, 5, 2]), (fourth(1, 4, 2, 4, 4), [0, 2, 1])])

    def test_what_is_named_first(self):
        self.check([
            (fourth(5, 5, 7, 0, 0), [-22]), (fourth(5, 5, 5, 0, 0), [-22]), (fourth(5, 5, 7, -1, 1), [-22]),
            (fourth(5, 5, 7, 1, 1001), [-22]), (fourth(5, 5, -1, 1, 1), [-22]), (fourth(1001, 1001, 0, 1, 1), [-22]),
            (fourth(5, 5, 7, 1, 1), [-17])])


class Even(Checked):
    def test_ordinary(self):
        self.check([
            (even(0, 6, 4), [0, 12, 1]), (even(0, 6, 2), [0, -6, 1]), (even(0, 1, 3), [0, 3, 5]),
            (even(0, 10, 20), [0, 20, 3]), (even(1, 4, 2), [0, -2, 1]), (even(2, 6, 3), [0, 0, 1])])

    def test_the_ends_of_the_range(self):
        self.check([
            (even(0, 1000, 1), [0, -500, 499]), (even(0, 1000, 999), [0, 499500, 499]),
            (even(0, 1, 1000), [0, 1000, 1999]), (even(1000, 999, 0), [0, 1998000, 1999])])

    def test_beyond_all_and_next_to_it(self):
        self.check([
            (even(0, 1000, 500), [-6]), (even(6, 2, 4), [-6]), (even(998, 1000, 999), [-6]),
            (even(0, 1000, 499), [0, -249500, 1]), (even(0, 1000, 501), [0, 250500, 1]),
            (even(0, 1, 2), [0, 2, 3])])

    def test_each_number_out_of_range(self):
        self.check([(call, [-22]) for call in each_wrong(even(1, 2, 4))])

    def test_two_alike(self):
        self.check([(even(5, 5, 7), [-17]), (even(5, 7, 5), [-17]), (even(7, 5, 5), [-17]), (even(5, 5, 5), [-17])])
        self.check([(even(0, 0, 0), [-17]), (even(1000, 0, 1000), [-17])])

    def test_what_is_named_first(self):
        self.check([
            (even(5, 5, -1), [-22]), (even(1001, 1001, 0), [-22]), (even(-1, 3, 1), [-22]),
            (even(1001, 1001, 1001), [-22])])

    def test_marks_change_nothing(self):
        for marks in [HALF, UNEVEN, ROAD]:
            self.check_marked(marks, [
                (even(0, 6, 4), [0, 12, 1]), (even(0, 6, 3), [-6]), (fourth(0, 1, 2, 4, 3), [0, 3, 1]),
                (six(0, 1, 2, 3), [0, 4, 3, 3, 4, -1, 3, -3, 1, 1, 4, 4, 1])])


if __name__ == "__main__":
    unittest.main()
