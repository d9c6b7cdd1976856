"""The form in which calls are handed over and answers given back."""

import unittest

from canallocks.canal import answers
from helper import CanalTest, begin, boat, do, feed, fill, lift, pound

CALLS = (
    [0, 6, 0, 10, 5, 1, 10, 9, 3, 3, 2, 1]
    + [5, 0]
    + [1, 2, 0]
    + [3, 2, 2, 0]
    + [3, 1, 0, 0]
    + [3, 3, 2, 0]
    + [5, 1]
    + [4, 7]
    + [5, 9]
    + [2, 2]
)
ANSWERS = [1, 0] + [2, 5, 0] + [1, 0] + [1, 0] + [1, 2] + [1, 1] + [2, 10, 1] + [1, 2] + [1, -4] + [1, 0]


class Form(CanalTest):
    def test_each_answer_has_its_count_before_it(self):
        self.assertEqual(answers(CALLS), ANSWERS)

    def test_one_call(self):
        self.assertEqual(answers([5, 0]), [1, -4])
        self.assertEqual(answers([0, 0, 0]), [1, -1])
        self.assertEqual(answers([4, 0]), [1, -4])

    def test_rows_that_are_refused_are_still_read_to_their_end(self):
        self.assertEqual(answers([0, 4, 1, 2, 3, 4, 2, 5, 6, 5, 0]), [1, -1, 1, -4])
        self.assertEqual(answers([0, 0, 2, 5, 6, 5, 0]), [1, -1, 1, -4])
        self.assertEqual(answers([0, 1, 5, 0, 5, 0]), [1, -1, 1, -4])

    def test_four_hundred_calls(self):
        calls = list(CALLS[:12])
        for _ in range(399):
            calls += [4, 1]
        self.assertEqual(answers(calls), [1, 0] + [1, 0] * 6 + [1, 1] * 393)

    def test_answers_are_whole_numbers_in_a_list(self):
        given = answers(CALLS)
        self.assertIs(type(given), list)
        for number in given:
            self.assertIs(type(number), int)

    def test_the_list_handed_in_is_the_same_afterwards(self):
        calls = list(CALLS)
        given = answers(calls)
        self.assertEqual(calls, CALLS)
        given.clear()
        self.assertEqual(calls, CALLS)

    def test_the_list_handed_in_is_never_changed(self):
        """A list that refuses every change, at whatever time it is tried."""

        class Frozen(list):
            def refuse(self, *args, **kwargs):
                raise AssertionError("the list handed in was changed")

            append = extend = insert = remove = pop = clear = sort = reverse = refuse
            __setitem__ = __delitem__ = __iadd__ = __imul__ = refuse

        self.assertEqual(answers(Frozen(CALLS)), ANSWERS)

    def test_nothing_is_kept_from_one_time_to_the_next(self):
        new_object = [5, 0, 2, 2, 3, 1, 0, 0, 4, 1]
        refused = [1, -4, 1, -4, 1, -4, 1, -4]
        self.assertEqual(answers(new_object), refused)
        self.assertEqual(answers(CALLS), ANSWERS)
        self.assertEqual(answers(new_object), refused)
        self.assertEqual(answers(CALLS), ANSWERS)


class NewObject(CanalTest):
    def test_every_call_without_pounds(self):
        self.plays(
            (pound(0), -4),
            (boat(0, 0), -4),
            (lift(0), -4),
            (do(0, 0), -4),
            (do(1, 0), -4),
            (do(2, 0), -4),
            (do(3, 0), -4),
            (feed(1), -4),
            (begin([], []), -1),
            (fill(0), -4),
        )


if __name__ == "__main__":
    unittest.main()
