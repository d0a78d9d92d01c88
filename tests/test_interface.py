"""The interface: how calls are handed in and how the answers are given back."""

import unittest

from wallmarks.view import answers

from sessions import (
    END, FITS, GREATEST, LEAST, READY, START, ask, flat, mark, marked, off, seen, truth, unmark)

ROAD = [(0, 0), (50, 100), (75, 300)]           # t = 100 m / (m + 100)
EVERY_CALL = marked(*ROAD) + [
    READY, truth(40), truth(100), seen(50), mark(3, 1), off(3), FITS, END, unmark(3), FITS, unmark(9)]
EVERY_ANSWER = [
    1, 0, 1, 0, 1, 1, 1, 2,
    1, 1, 3, 0, 200, 3, 1, -6, 3, 0, 100, 3, 1, 3, 3, 0, -203, 101, 1, 0, 3, 0, 100, 1, 1, 3, 1, 1, 1, -2]


class Answers(unittest.TestCase):
    def test_each_answer_stands_behind_its_count(self):
        self.assertEqual(answers(flat(EVERY_CALL)), EVERY_ANSWER)

    def test_one_call(self):
        self.assertEqual(answers([0]), [1, 0])
        self.assertEqual(answers([3]), [1, -11])

    def test_a_refusal_is_its_number_alone(self):
        self.assertEqual(answers([0, 4, -1, 4, 0, 2, 0]), [1, 0, 1, -22, 1, -16, 1, -2])

    def test_lists_and_whole_numbers_alone(self):
        given = answers(flat(EVERY_CALL))
        self.assertIs(type(given), list)
        self.assertEqual({type(number) for number in given}, {int})

    def test_what_is_handed_in_stays_as_it_was(self):
        calls = flat(EVERY_CALL)
        before = list(calls)
        answers(calls)
        self.assertEqual(calls, before)

    def test_what_is_handed_in_is_not_changed_for_a_while_either(self):
        class Guarded(list):
            def refuse(self, *given):
                raise AssertionError("the list handed in was changed")

            append = extend = insert = pop = remove = clear = reverse = sort = refuse
            __setitem__ = __delitem__ = __iadd__ = __imul__ = refuse

        self.assertEqual(answers(Guarded(flat(EVERY_CALL))), EVERY_ANSWER)

    def test_what_is_given_back_is_not_what_was_handed_in(self):
        calls = [0]
        given = answers(calls)
        given.append(7)
        self.assertEqual(calls, [0])
        self.assertEqual(answers(calls), [1, 0])

    def test_a_second_time_answers_like_the_first(self):
        calls = flat(EVERY_CALL)
        self.assertEqual(answers(calls), EVERY_ANSWER)
        self.assertEqual(answers(calls), EVERY_ANSWER)

    def test_nothing_is_kept_from_one_time_to_the_next(self):
        answers(flat(marked(*ROAD)))
        self.assertEqual(ask(READY), [[-11]])
        self.assertEqual(ask(START, READY, mark(5, 5)), [[0], [0], [0]])

    def test_the_ends_of_what_is_handed_in(self):
        for far in [LEAST, GREATEST]:
            self.assertEqual(
                ask(*marked(*ROAD), mark(far, 0), mark(0, far), truth(far), seen(far))[4:],
                [[-22]] * 4, far)
        self.assertEqual(ask(*marked(*ROAD), unmark(GREATEST), off(GREATEST))[4:], [[-2]] * 2)

    def test_two_hundred_calls(self):
        calls = marked(*ROAD) + [seen(m) for m in range(98)] + [truth(t) for t in range(98)]
        self.assertEqual(len(calls), 200)
        given = ask(*calls)
        for m, answer in enumerate(given[4:102]):
            self.assertEqual(answer[1] * (m + 100), 100 * m * answer[2])
        for t, answer in enumerate(given[102:]):
            self.assertEqual(answer[1] * (100 - t), 100 * t * answer[2])

    def test_two_hundred_calls_that_start_and_mark_and_unmark(self):
        calls = (marked(*ROAD) + [unmark(1)]) * 40
        self.assertEqual(len(calls), 200)
        self.assertEqual(ask(*calls), [[0], [0], [1], [2], [2]] * 40)


if __name__ == "__main__":
    unittest.main()
