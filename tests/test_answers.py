"""The form in which calls are handed over and answers given back."""

import unittest

from canallocks.canal import answers
from helper import (
    HUGE, CanalTest, begin, boat, do, feed, fill, lift, lock, moves, plan, pound, run, run_numbers, total, where,
)

CALLS = (
    [0, 6, 0, 10, 5, 1, 10, 9, 3, 3, 2, 1]
    + [5, 0]
    + [1, 2, 0]
    + [3, 2, 2, 0]
    + [3, 1, 0, 0]
    + [3, 3, 2, 0]
    + [5, 1]
    + [4, 7]
    + [5, 9]
    + [2, 2]
    + [6, 0]
    + [7, 2]
    + [8]
    + [1, 1, 0]
    + [9]
    + [10, 1, 0, 2, 0, 0]
    + [11, 15, 0, 0, 0, 2, 1, 0, 1, 0, 7, 3, 1, 7, 1, 0, 0]
    + [7, 1]
    + [6, 0]
    + [8]
    + [10, 0, 0, 1, 0, 0]
    + [10, 1, 1, 0, 0, 0]
    + [10, 1, 0, 3, 0, 0]
    + [11, 2, 0, 0]
    + [9]
)
ANSWERS = (
    [1, 0] + [2, 5, 0] + [1, 0] + [1, 0] + [1, 2] + [1, 1] + [2, 10, 1] + [1, 2] + [1, -4] + [1, 0]
    + [2, 0, 0]
    + [1, -4]
    + [3, 20, 4, 7]
    + [1, 0]
    + [4, 1, 0, 0, 0]
    + [14, 3, 4, 0, 0, 0, 2, 1, 0, 1, 0, 0, 3, 1, 0]
    + [1, 4]
    + [2, 0, 1]
    + [2, 0, 0]
    + [3, 17, 7, 7]
    + [11, 0, 3, 2, 1, 0, 0, 0, 0, 3, 1, 0]
    + [1, -3]
    + [1, -1]
    + [1, -1]
    + [7, 2, 0, 0, 0, 2, 1, 0]
)


class Form(CanalTest):
    def test_each_answer_has_its_count_before_it(self):
        self.assertEqual(answers(CALLS), ANSWERS)

    def test_one_call(self):
        self.assertEqual(answers([5, 0]), [1, -4])
        self.assertEqual(answers([0, 0, 0]), [1, -1])
        self.assertEqual(answers([4, 0]), [1, -4])
        self.assertEqual(answers([6, 0]), [1, -4])
        self.assertEqual(answers([7, 0]), [1, -4])
        self.assertEqual(answers([8]), [3, 0, 0, 0])
        self.assertEqual(answers([9]), [1, 0])
        self.assertEqual(answers([10, 0, 0, 0, 0, 0]), [2, 0, 0])
        self.assertEqual(answers([11, 0]), [1, 0])

    def test_rows_that_are_refused_are_still_read_to_their_end(self):
        self.assertEqual(answers([0, 4, 1, 2, 3, 4, 2, 5, 6, 5, 0]), [1, -1, 1, -4])
        self.assertEqual(answers([0, 0, 2, 5, 6, 5, 0]), [1, -1, 1, -4])
        self.assertEqual(answers([0, 1, 5, 0, 5, 0]), [1, -1, 1, -4])
        self.assertEqual(answers([11, 4, 1, 2, 3, 4, 5, 0]), [1, -1, 1, -4])
        self.assertEqual(answers([11, 303] + [9] * 303 + [8]), [1, -1, 3, 0, 0, 0])
        self.assertEqual(answers([11, 6, 9, 9, 9, 9, 9, 9, 8]), [1, 0, 3, 0, 0, 0])
        self.assertEqual(answers([10, 2, 9, 9, 9, 9, 8]), [1, -1, 3, 0, 0, 0])

    def test_four_hundred_calls(self):
        calls = list(CALLS[:12])
        for _ in range(399):
            calls += [4, 1]
        self.assertEqual(answers(calls), [1, 0] + [1, 0] * 6 + [1, 1] * 393)

    def test_answers_are_whole_numbers_in_a_list(self):
        given = answers(CALLS)
        self.assertIs(type(given), list)
        for number in given:
            self.assertIs(type(number), int)

    def test_the_list_handed_in_is_the_same_afterwards(self):
        calls = list(CALLS)
        given = answers(calls)
        self.assertEqual(calls, CALLS)
        given.clear()
        self.assertEqual(calls, CALLS)

    def test_the_list_handed_in_is_never_changed(self):
        """A list that refuses every change, at whatever time it is tried."""

        class Frozen(list):
            def refuse(self, *args, **kwargs):
                raise AssertionError("the list handed in was changed")

            append = extend = insert = remove = pop = clear = sort = reverse = refuse
            __setitem__ = __delitem__ = __iadd__ = __imul__ = refuse

        self.assertEqual(answers(Frozen(CALLS)), ANSWERS)

    def test_nothing_is_kept_from_one_time_to_the_next(self):
        new_object = [5, 0, 2, 2, 3, 1, 0, 0, 4, 1, 6, 0, 7, 1, 8, 9, 10, 1, 0, 1, 0, 0, 11, 3, 0, 0, 0]
        refused = [1, -4, 1, -4, 1, -4, 1, -4, 1, -4, 1, -4, 3, 0, 0, 0, 1, 0, 1, -1, 1, 0]
        self.assertEqual(answers(new_object), refused)
        self.assertEqual(answers(CALLS), ANSWERS)
        self.assertEqual(answers(new_object), refused)
        self.assertEqual(answers(CALLS), ANSWERS)


class NewObject(CanalTest):
    def test_every_call_without_pounds(self):
        self.plays(
            (pound(0), -4),
            (boat(0, 0), -4),
            (lift(0), -4),
            (do(0, 0), -4),
            (do(1, 0), -4),
            (do(2, 0), -4),
            (do(3, 0), -4),
            (feed(1), -4),
            (begin([], []), -1),
            (fill(0), -4),
            (lock(0), -4),
            (where(0), -4),
            (total(), [0, 0, 0]),
            (moves(), [0]),
            (plan(0), [0, 0]),
            (plan(1), [0, 0]),
            (plan(1, 0, 1), -1),
            (run(), 0),
            (run((0, 0, 0), (1, 0, 0)), 0),
        )


class HighNumbers(CanalTest):
    CANAL = begin([0, 10, 5, 1, 10, 9], [3, 2, 1])

    def test_the_highest_number_in_every_place(self):
        calls = [
            (boat(HUGE, 0), -1), (boat(0, HUGE), -4), (lift(HUGE), -4), (do(HUGE, 0, 0), -4), (do(0, HUGE, 0), -4),
            (do(2, 1, HUGE), -4), (do(2, HUGE, 0), -4), (do(1, HUGE, HUGE), -4), (do(3, HUGE, 0), -4), (feed(HUGE), -1),
            (pound(HUGE), -4), (lock(HUGE), -4), (where(HUGE), -4), (plan(HUGE), -1), (plan(0, HUGE), -1),
            (plan(1, 0, HUGE), -1), (plan(1, 0, 0, HUGE), -1), (plan(1, 0, 0, 0, HUGE), -1), (plan(HUGE, *[HUGE] * 4), -1),
            (run((HUGE, HUGE, HUGE)), 0), (run((0, HUGE, 0)), 0), (run((2, 1, HUGE)), 0), (run_numbers([HUGE]), -1),
        ]
        for place in range(6):
            numbers = [0, 10, 5, 1, 10, 9]
            numbers[place] = HUGE
            calls.append((begin(numbers, [3, 2, 1]), -1))
        for place in range(3):
            numbers = [3, 2, 1]
            numbers[place] = HUGE
            calls.append((begin([0, 10, 5, 1, 10, 9], numbers), -1))
        self.plays((self.CANAL, 0), (boat(1, 0), 0), *calls, (total(), [17, 0, 0]), (where(1), [0, 0]))

    def test_the_highest_number_where_it_plays_no_part(self):
        self.plays(
            (self.CANAL, 0), (boat(1, 0), 0), (do(1, 0, HUGE), 2), (run((0, 0, HUGE), (2, 1, 0), (3, 1, HUGE)), 3),
        )


if __name__ == "__main__":
    unittest.main()
