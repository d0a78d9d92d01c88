"""Point 1: start, mark, unmark, ready, state; and what is refused before a start and when it isn't ready."""

import unittest

from sessions import (
    END, FITS, GREATEST, LEAST, ORIGIN, READY, START, STATE, ask, ask_marked, between, double, even,
    fourth, keeps, mark, marked, middle, off, seen, six, truth, unmark)

# Every call of the interface but start. 500 is no call: a list that is parted at a wrong place can't be
# answered.
EVERY_OTHER_CALL = [
    [call] + [500] * count
    for call, count in [
        (1, 2), (2, 1), (3, 0), (4, 1), (5, 1), (6, 1), (7, 0), (8, 0), (9, 0), (10, 2), (11, 2),
        (12, 4), (13, 4), (14, 5), (15, 3), (16, 4), (17, 0)]]

# Seen at half of what they are in truth.
HALF = [(0, 0), (10, 20), (30, 60)]

EIGHT = [(k, k) for k in range(8)]


class BeforeAStart(unittest.TestCase):
    def test_every_other_call_alone(self):
        for call in EVERY_OTHER_CALL:
            self.assertEqual(ask(call), [[-11]], call)

    def test_a_start_behind_every_other_call(self):
        for call in EVERY_OTHER_CALL:
            self.assertEqual(ask(call, START, START), [[-11], [0], [0]], call)

    def test_every_other_call_in_one_list(self):
        self.assertEqual(ask(*EVERY_OTHER_CALL), [[-11]] * len(EVERY_OTHER_CALL))

    def test_it_is_named_ahead_of_every_other_refusal(self):
        calls = [
            mark(-1, 0), mark(0, 1001), unmark(7), truth(-1), seen(1001), off(7), ORIGIN, between(-1, 0),
            middle(0, 1001), double(0, 0, 0, 1), double(0, 1, 2, 0), six(0, 0, 1, 2), fourth(0, 1, 2, 0, 0),
            fourth(0, 0, 1, 1, 1), even(0, 2, 1), even(0, 0, 1), keeps(0, 1, 2, -1), keeps(0, 1, 2, 0)]
        self.assertEqual(ask(*calls), [[-11]] * len(calls))

    def test_a_mark_before_a_start_is_not_kept(self):
        self.assertEqual(
            ask(mark(1, 1), START, STATE, unmark(0), mark(2, 2)), [[-11], [0], [0], [-2], [0]])

    def test_what_would_be_answered_behind_one(self):
        calls = [
            STATE, double(0, 1, 2, 3), six(0, 1, 2, 3), fourth(0, 1, 2, 1, 3), even(0, 1, 3), READY]
        self.assertEqual(ask(*calls), [[-11]] * len(calls))


class Start(unittest.TestCase):
    def test_answers_0(self):
        self.assertEqual(ask(START), [[0]])

    def test_again_and_again(self):
        self.assertEqual(ask(START, START, START), [[0], [0], [0]])

    def test_in_the_middle_takes_all_marks_away(self):
        self.assertEqual(
            ask_marked(HALF, READY, START, READY, unmark(0), FITS, mark(4, 4)),
            [[1], [0], [0], [-2], [-16], [0]])

    def test_in_the_middle_makes_room_for_eight(self):
        again = marked(*EIGHT)
        self.assertEqual(
            ask_marked(EIGHT, *again, mark(9, 9)),
            [[0]] + [[k] for k in range(8)] + [[-28]])


class MarkCall(unittest.TestCase):
    def test_answers_its_number(self):
        self.assertEqual(ask(START, mark(5, 7), mark(6, 8), mark(1, 2)), [[0], [0], [1], [2]])

    def test_the_ends_of_the_range(self):
        self.assertEqual(
            ask(START, mark(0, 0), mark(1000, 1000), mark(0, 1000), mark(1000, 0)),
            [[0], [0], [1], [2], [3]])

    def test_one_beyond_either_end(self):
        for call in [mark(-1, 5), mark(1001, 5), mark(5, -1), mark(5, 1001), mark(-1, 1001)]:
            self.assertEqual(ask(START, call), [[0], [-22]], call)

    def test_the_ends_of_what_is_handed_in(self):
        for far in [LEAST, GREATEST]:
            for call in [mark(far, 5), mark(5, far), mark(far, far)]:
                self.assertEqual(ask(START, call), [[0], [-22]], call)

    def test_a_refused_one_is_not_kept(self):
        self.assertEqual(
            ask(START, mark(3, 3), mark(-1, 3), mark(3, 1001), mark(4, 4)),
            [[0], [0], [-22], [-22], [1]])

    def test_the_eighth_and_the_ninth(self):
        self.assertEqual(
            ask(*marked(*EIGHT), mark(8, 8)), [[0]] + [[k] for k in range(8)] + [[-28]])

    def test_the_ninth_is_not_kept(self):
        self.assertEqual(ask_marked(EIGHT, mark(8, 8), unmark(7), mark(8, 8)), [[-28], [7], [7]])

    def test_out_of_range_is_named_ahead_of_too_many(self):
        self.assertEqual(
            ask_marked(EIGHT, mark(-1, 0), mark(0, 1001), mark(0, 0)), [[-22], [-22], [-28]])

    def test_two_alike_are_two(self):
        self.assertEqual(ask(START, mark(5, 5), mark(5, 5), unmark(0)), [[0], [0], [1], [1]])


class Unmark(unittest.TestCase):
    # In truth where they're seen but for the last, which off tells by how it's marked.
    FIVE = [(0, 0), (10, 10), (20, 20), (30, 30), (40, 45)]

    def test_answers_how_many_there_are(self):
        self.assertEqual(
            ask_marked(self.FIVE, unmark(0), unmark(0), unmark(0), unmark(0), unmark(0)),
            [[4], [3], [2], [1], [0]])

    def test_those_behind_have_one_number_less(self):
        for i in [0, 1, 2, 3]:
            self.assertEqual(
                ask_marked(self.FIVE, off(4), unmark(i), off(4), off(3), off(2)),
                [[0, 5, 1], [4], [-2], [0, 5, 1], [0, 0, 1]], i)

    def test_the_last(self):
        self.assertEqual(
            ask_marked(self.FIVE, FITS, unmark(4), FITS, off(3), off(4)),
            [[0], [4], [1], [0, 0, 1], [-2]])

    def test_one_that_is_not_there(self):
        self.assertEqual(
            ask_marked(self.FIVE, unmark(5), unmark(6), unmark(GREATEST), unmark(4), unmark(4)),
            [[-2], [-2], [-2], [4], [-2]])

    def test_without_marks(self):
        self.assertEqual(ask(START, unmark(0), unmark(GREATEST)), [[0], [-2], [-2]])

    def test_a_refused_one_changes_nothing(self):
        self.assertEqual(ask_marked(HALF, unmark(3), READY, mark(1, 1)), [[-2], [1], [3]])

    def test_makes_room_for_one_more_at_the_end(self):
        self.assertEqual(
            ask_marked(EIGHT, unmark(3), mark(100, 200), off(7), mark(5, 5)),
            [[7], [7], [0, 100, 1], [-28]])


class Ready(unittest.TestCase):
    def test_with_each_number_of_marks(self):
        calls = [START, READY]
        for k in range(8):
            calls += [mark(k, 2 * k), READY]
        self.assertEqual(
            [part[0] for part in ask(*calls)][1::2], [0, 0, 0, 1, 1, 1, 1, 1, 1])

    def test_two_of_the_first_three_alike_in_the_picture(self):
        for ts in [(5, 5, 6), (5, 6, 5), (6, 5, 5), (5, 5, 5)]:
            self.assertEqual(ask_marked(zip(ts, (1, 2, 3)), READY), [[0]], ts)

    def test_two_of_the_first_three_alike_in_truth(self):
        for ms in [(5, 5, 6), (5, 6, 5), (6, 5, 5), (5, 5, 5)]:
            self.assertEqual(ask_marked(zip((1, 2, 3), ms), READY), [[0]], ms)

    def test_the_same_number_in_the_picture_and_in_truth_does_no_harm(self):
        self.assertEqual(ask_marked([(1, 2), (2, 3), (3, 1)], READY), [[1]])

    def test_only_the_first_three_count(self):
        self.assertEqual(ask_marked(HALF + [(0, 0), (10, 60)], READY), [[1]])
        self.assertEqual(ask_marked([(0, 0), (0, 5), (1, 1), (2, 2), (3, 3)], READY), [[0]])

    def test_a_mark_taken_away_can_make_it_ready(self):
        self.assertEqual(
            ask_marked([(0, 0), (0, 5), (1, 1), (2, 2)], READY, unmark(1), READY, FITS),
            [[0], [3], [1], [1]])

    def test_a_mark_taken_away_can_make_it_not_ready(self):
        self.assertEqual(ask_marked(HALF, READY, unmark(2), READY), [[1], [2], [0]])
        self.assertEqual(
            ask_marked(HALF + [(10, 5)], READY, unmark(0), READY), [[1], [3], [0]])


class State(unittest.TestCase):
    def test_without_marks(self):
        self.assertEqual(ask(START, STATE), [[0], [0]])

    def test_one(self):
        self.assertEqual(ask_marked([(3, 7)], STATE), [[1, 3, 7]])

    def test_each_one_in_order(self):
        self.assertEqual(ask_marked([(9, 1), (0, 1000), (1000, 0)], STATE), [[3, 9, 1, 0, 1000, 1000, 0]])

    def test_eight(self):
        marks = [(10 * k, 1000 - k) for k in range(8)]
        told = [8] + [number for one in marks for number in one]
        self.assertEqual(ask_marked(marks, STATE, mark(5, 6), STATE), [told, [-28], told])

    def test_behind_each_mark(self):
        self.assertEqual(
            ask(START, STATE, mark(5, 6), STATE, mark(5, 6), STATE),
            [[0], [0], [0], [1, 5, 6], [1], [2, 5, 6, 5, 6]])

    def test_behind_an_unmark(self):
        marks = [(1, 2), (3, 4), (5, 6)]
        for i, left in [(0, [3, 4, 5, 6]), (1, [1, 2, 5, 6]), (2, [1, 2, 3, 4])]:
            self.assertEqual(ask_marked(marks, unmark(i), STATE), [[2], [2] + left], i)

    def test_behind_an_unmark_of_the_only_one(self):
        self.assertEqual(ask_marked([(1, 2)], unmark(0), STATE), [[0], [0]])

    def test_a_mark_behind_an_unmark_is_the_last(self):
        self.assertEqual(
            ask_marked([(1, 2), (3, 4)], unmark(0), mark(5, 6), STATE), [[1], [1], [2, 3, 4, 5, 6]])

    def test_what_is_refused_changes_nothing(self):
        self.assertEqual(
            ask_marked([(1, 2)], mark(-1, 3), mark(3, 1001), unmark(1), STATE),
            [[-22], [-22], [-2], [1, 1, 2]])

    def test_behind_another_start(self):
        self.assertEqual(ask_marked(HALF, START, STATE), [[0], [0]])

    def test_no_other_call_changes_it(self):
        calls = [
            READY, truth(5), seen(5), off(1), FITS, END, ORIGIN, between(1, 2), middle(1, 2),
            double(1, 2, 3, 4), six(1, 2, 3, 4), fourth(1, 2, 3, 4, 5), even(1, 2, 4), keeps(1, 2, 3, 4), STATE]
        for call in calls:
            self.assertEqual(ask_marked(HALF, call, STATE)[1], [3, 0, 0, 10, 20, 30, 60], call)


class NotReady(unittest.TestCase):
    NEVER_READY = [
        [], [(0, 0)], [(0, 0), (1, 1)],
        [(5, 1), (5, 2), (6, 3)], [(5, 1), (6, 2), (5, 3)], [(6, 1), (5, 2), (5, 3)],
        [(1, 5), (2, 5), (3, 6)], [(1, 5), (2, 6), (3, 5)], [(1, 6), (2, 5), (3, 5)],
        [(5, 1), (5, 2), (6, 3), (7, 4)]]

    def test_what_needs_it_is_refused(self):
        for marks in self.NEVER_READY:
            self.assertEqual(
                ask_marked(
                    marks, truth(0), truth(1000), seen(0), seen(1000), FITS, END, ORIGIN, between(0, 1000),
                    between(5, 5), middle(0, 1000), middle(5, 5), keeps(0, 1, 2, 3)),
                [[-16]] * 12, marks)

    def test_it_is_named_ahead_of_what_is_below_being_0(self):
        for marks in self.NEVER_READY:
            self.assertEqual(
                ask_marked(marks, keeps(0, 1, 2, 0), keeps(0, 1, 1, 2), keeps(0, 1, 1, 0)), [[-16]] * 3, marks)

    def test_what_does_not_need_it_is_answered(self):
        for marks in self.NEVER_READY:
            self.assertEqual(
                ask_marked(marks, double(0, 1, 2, 3), even(0, 1, 3), fourth(0, 1, 2, 4, 3)),
                [[0, 4, 3], [0, 3, 5], [0, 3, 1]], marks)
            self.assertEqual(
                ask_marked(marks, six(0, 1, 2, 3)), [[0, 4, 3, 3, 4, -1, 3, -3, 1, 1, 4, 4, 1]], marks)
            self.assertEqual(
                ask_marked(marks, STATE), [[len(marks)] + [number for one in marks for number in one]])

    def test_off_of_a_mark_that_is_there(self):
        for marks in self.NEVER_READY:
            for i in range(len(marks)):
                self.assertEqual(ask_marked(marks, off(i)), [[-16]], marks)

    def test_what_is_named_first(self):
        for marks in self.NEVER_READY:
            self.assertEqual(
                ask_marked(marks, truth(-1), truth(1001), seen(-1), seen(1001), off(len(marks))),
                [[-22], [-22], [-22], [-22], [-2]], marks)
            self.assertEqual(
                ask_marked(
                    marks, between(-1, 0), between(0, 1001), middle(1001, 0), middle(0, -1),
                    keeps(-1, 0, 1, 2), keeps(0, 1, 2, 1001), keeps(0, 0, 0, 1), keeps(5, 5, 5, 5)),
                [[-22]] * 8, marks)


if __name__ == "__main__":
    unittest.main()
