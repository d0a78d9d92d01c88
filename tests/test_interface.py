"""The interface: how calls are handed in and how the answers are given back."""

import unittest

from wallmarks.view import answers

from sessions import (
    END, FITS, GREATEST, LEAST, ORIGIN, READY, START, STATE, ask, ask_marked, between, double, even, flat,
    fourth, keeps, mark, marked, middle, off, seen, six, truth, unmark)

ROAD = [(0, 0), (50, 100), (75, 300)]           # t = 100 m / (m + 100)
EVERY_CALL = marked(*ROAD) + [
    READY, truth(40), truth(100), seen(50), mark(3, 1), off(3), FITS, END, unmark(3), FITS, unmark(9),
    ORIGIN, between(50, 75), middle(0, 75), double(1, 2, 3, 7), six(0, 1, 2, 3), fourth(1, 2, 3, 0, 1),
    even(0, 6, 2), keeps(0, 50, 75, 100), keeps(0, 50, 75, 0), STATE]
EVERY_ANSWER = [
    1, 0, 1, 0, 1, 1, 1, 2,
    1, 1, 3, 0, 200, 3, 1, -6, 3, 0, 100, 3, 1, 3, 3, 0, -203, 101, 1, 0, 3, 0, 100, 1, 1, 3, 1, 1, 1, -2,
    3, 0, -100, 1, 3, 0, 200, 1, 3, 0, 60, 1, 3, 0, 5, 3,
    13, 0, 4, 3, 3, 4, -1, 3, -3, 1, 1, 4, 4, 1, 3, 0, 2, 1,
    3, 0, -6, 1, 3, 0, 3, 2, 1, -6, 7, 3, 0, 0, 50, 100, 75, 300]


class Answers(unittest.TestCase):
    def test_each_answer_stands_behind_its_count(self):
        self.assertEqual(answers(flat(EVERY_CALL)), EVERY_ANSWER)

    def test_one_call(self):
        self.assertEqual(answers([0]), [1, 0])
        self.assertEqual(answers([3]), [1, -11])

    def test_a_refusal_is_its_number_alone(self):
        self.assertEqual(answers([0, 4, -1, 4, 0, 2, 0]), [1, 0, 1, -22, 1, -16, 1, -2])

    def test_lists_and_whole_numbers_alone(self):
        given = answers(flat(EVERY_CALL))
        self.assertIs(type(given), list)
        self.assertEqual({type(number) for number in given}, {int})

    def test_what_is_handed_in_stays_as_it_was(self):
        calls = flat(EVERY_CALL)
        before = list(calls)
        answers(calls)
        self.assertEqual(calls, before)

    def test_what_is_handed_in_is_not_changed_for_a_while_either(self):
        class Guarded(list):
            def refuse(self, *given):
                raise AssertionError("the list handed in was changed")

            append = extend = insert = pop = remove = clear = reverse = sort = refuse
            __setitem__ = __delitem__ = __iadd__ = __imul__ = refuse

        self.assertEqual(answers(Guarded(flat(EVERY_CALL))), EVERY_ANSWER)

    def test_what_is_given_back_is_not_what_was_handed_in(self):
        calls = [0]
        given = answers(calls)
        given.append(7)
        self.assertEqual(calls, [0])
        self.assertEqual(answers(calls), [1, 0])

    def test_a_second_time_answers_like_the_first(self):
        calls = flat(EVERY_CALL)
        self.assertEqual(answers(calls), EVERY_ANSWER)
        self.assertEqual(answers(calls), EVERY_ANSWER)

    def test_nothing_is_kept_from_one_time_to_the_next(self):
        answers(flat(marked(*ROAD)))
        self.assertEqual(ask(READY), [[-11]])
        self.assertEqual(ask(START, READY, mark(5, 5)), [[0], [0], [0]])

    def test_the_ends_of_what_is_handed_in(self):
        for far in [LEAST, GREATEST]:
            self.assertEqual(
                ask(*marked(*ROAD), mark(far, 0), mark(0, far), truth(far), seen(far))[4:],
                [[-22]] * 4, far)
        self.assertEqual(ask(*marked(*ROAD), unmark(GREATEST), off(GREATEST))[4:], [[-2]] * 2)

    def test_the_ends_of_what_is_handed_in_at_each_place(self):
        for call in [
                between(1, 2), middle(1, 2), double(1, 2, 3, 4), six(1, 2, 3, 4), fourth(1, 2, 3, 4, 5),
                even(1, 2, 4), keeps(1, 2, 3, 4)]:
            self.assertEqual(ask_marked(ROAD, call)[0][0], 0, call)
            for place in range(1, len(call)):
                for far in [LEAST, GREATEST]:
                    wrong = call[:place] + [far] + call[place + 1:]
                    self.assertEqual(ask_marked(ROAD, wrong), [[-22]], wrong)

    def test_the_ends_of_what_is_handed_in_at_all_places(self):
        for far in [LEAST, GREATEST]:
            for call, count in [(10, 2), (11, 2), (12, 4), (13, 4), (14, 5), (15, 3), (16, 4)]:
                self.assertEqual(ask_marked(ROAD, [call] + [far] * count), [[-22]], (call, far))

    def test_two_hundred_calls(self):
        calls = marked(*ROAD) + [seen(m) for m in range(98)] + [truth(t) for t in range(98)]
        self.assertEqual(len(calls), 200)
        given = ask(*calls)
        for m, answer in enumerate(given[4:102]):
            self.assertEqual(answer[1] * (m + 100), 100 * m * answer[2])
        for t, answer in enumerate(given[102:]):
            self.assertEqual(answer[1] * (100 - t), 100 * t * answer[2])

    def test_two_hundred_of_the_longest_calls(self):
        calls = [START] + [fourth(0, 1, 2, p, 1000) for p in range(199)]
        self.assertEqual(len(calls), 200)
        for p, answer in enumerate(ask(*calls)[1:]):
            # 2 (d - 1) 1000 = p d
            self.assertEqual(answer[0], 0)
            self.assertEqual(answer[1] * (2000 - p), 2000 * answer[2])

    def test_two_hundred_of_the_longest_answers(self):
        eight = [(k, k * k) for k in range(8)]
        told = [8] + [number for one in eight for number in one]
        calls = marked(*eight) + [STATE] * 191
        self.assertEqual(len(calls), 200)
        self.assertEqual(ask(*calls)[9:], [told] * 191)

    def test_two_hundred_calls_of_all_kinds(self):
        calls = (EVERY_CALL * 8)[:200]
        self.assertEqual(len(calls), 200)
        given = ask(*calls)
        self.assertEqual(given, (ask(*EVERY_CALL) * 8)[:200])

    def test_two_hundred_calls_that_start_and_mark_and_unmark(self):
        calls = (marked(*ROAD) + [unmark(1)]) * 40
        self.assertEqual(len(calls), 200)
        self.assertEqual(ask(*calls), [[0], [0], [1], [2], [2]] * 40)


if __name__ == "__main__":
    unittest.main()
