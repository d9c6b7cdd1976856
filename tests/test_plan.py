"""The call plan: what it tells, which plan is before which, its refusals."""

import unittest
from unittest import mock

from helper import (
    EMPTY, ENTER, FILL, HUGE, LEAVE, CanalTest, ask, begin, boat, do, empty, enter, everything, feed, fill, flat, lift,
    lock, moves, plan, pound, run, total, where,
)

BY_OPERATIONS, BY_WATER = range(2)
CANAL = begin([0, 10, 10, 0, 10, 0], [3, 1, 0])
FULL = begin([0, 10, 10, 0, 10, 0], [3, 1, 1])
ROOMY = begin([0, 10, 10, 0, 10, 0], [3, 2, 1])


def told(used, *operations):
    """What plan answers: what it uses, how many operations, these."""
    return [used, len(operations)] + flat(operations)


class Plans(CanalTest):
    def test_down_through_an_empty_lock(self):
        self.plays(
            (CANAL, 0),
            (boat(0, 0), 0),
            (plan(BY_OPERATIONS, 2), [0, 4, 0, 0, 0, 2, 0, 0, 1, 0, 0, 3, 0, 0]),
            (plan(BY_WATER, 2), [3, 4, 0, 0, 0, 2, 0, 0, 1, 0, 0, 3, 0, 0]),
        )

    def test_down_through_a_full_lock(self):
        row = [(ENTER, 3, 0), (EMPTY, 0, 0), (LEAVE, 3, 0)]
        self.plays(
            (FULL, 0),
            (boat(3, 0), 0),
            (plan(BY_OPERATIONS, 0, 0, 0, 2), told(0, *row)),
            (plan(BY_WATER, 0, 0, 0, 2), told(0, *row)),
        )

    def test_up_through_an_empty_lock(self):
        row = [(ENTER, 1, 0), (FILL, 0, 0), (LEAVE, 1, 0)]
        self.plays(
            (CANAL, 0),
            (boat(1, 1), 0),
            (plan(BY_OPERATIONS, 0, 1), told(0, *row)),
            (plan(BY_WATER, 0, 1), told(3, *row)),
        )

    def test_up_through_a_full_lock(self):
        row = [(EMPTY, 0, 0), (ENTER, 2, 0), (FILL, 0, 0), (LEAVE, 2, 0)]
        self.plays(
            (FULL, 0),
            (boat(2, 1), 0),
            (plan(BY_OPERATIONS, 0, 0, 1), told(0, *row)),
            (plan(BY_WATER, 0, 0, 1), told(3, *row)),
        )

    def test_a_boat_that_is_in_a_lock(self):
        self.plays(
            (FULL, 0),
            (boat(0, 0), 0),
            (enter(0, 0), 0),
            (plan(BY_WATER, 1), told(0, (LEAVE, 0, 0))),
            (plan(BY_WATER, 2), told(0, (EMPTY, 0, 0), (LEAVE, 0, 0))),
            (empty(0), 0),
            (plan(BY_WATER, 1), told(3, (FILL, 0, 0), (LEAVE, 0, 0))),
            (plan(BY_OPERATIONS, 1), told(0, (FILL, 0, 0), (LEAVE, 0, 0))),
            (plan(BY_OPERATIONS, 2), told(0, (LEAVE, 0, 0))),
        )

    def test_boats_of_which_anything_is_wanted_may_stand_anywhere(self):
        self.plays(
            (FULL, 0),
            (boat(0, 0), 0),
            (boat(1, 0), 0),
            (enter(0, 0), 0),
            (plan(BY_WATER, 2, 0), told(0, (EMPTY, 0, 0), (LEAVE, 0, 0))),
            (plan(BY_WATER, 0, 2), told(0, (LEAVE, 0, 0), (ENTER, 1, 0), (EMPTY, 0, 0), (LEAVE, 1, 0))),
            (plan(BY_OPERATIONS, 0, 2), told(0, (LEAVE, 0, 0), (ENTER, 1, 0), (EMPTY, 0, 0), (LEAVE, 1, 0))),
        )

    def test_two_boats_together(self):
        row = [(ENTER, 0, 0), (ENTER, 2, 0), (EMPTY, 0, 0), (LEAVE, 0, 0), (LEAVE, 2, 0)]
        self.plays(
            (ROOMY, 0),
            (boat(0, 0), 0),
            (boat(2, 0), 0),
            (plan(BY_OPERATIONS, 2, 0, 2), told(0, *row)),
            (plan(BY_WATER, 2, 0, 2), told(0, *row)),
        )

    def test_up_and_down_by_turns(self):
        row = [
            (ENTER, 0, 0), (EMPTY, 0, 0), (LEAVE, 0, 0),
            (ENTER, 2, 0), (FILL, 0, 0), (LEAVE, 2, 0),
            (ENTER, 1, 0), (EMPTY, 0, 0), (LEAVE, 1, 0),
            (ENTER, 3, 0), (FILL, 0, 0), (LEAVE, 3, 0),
        ]
        self.plays(
            (FULL, 0),
            (boat(0, 0), 0),
            (boat(1, 0), 0),
            (boat(2, 1), 0),
            (boat(3, 1), 0),
            (plan(BY_OPERATIONS, 2, 2, 1, 1), told(0, *row)),
            (plan(BY_WATER, 2, 2, 1, 1), told(6, *row)),
        )

    def test_it_tells_again_behind_what_is_done(self):
        self.plays(
            (CANAL, 0),
            (boat(0, 0), 0),
            (fill(0), 0),
            (plan(BY_WATER, 2), told(0, (ENTER, 0, 0), (EMPTY, 0, 0), (LEAVE, 0, 0))),
            (empty(0), 0),
            (plan(BY_WATER, 2), told(3, (FILL, 0, 0), (ENTER, 0, 0), (EMPTY, 0, 0), (LEAVE, 0, 0))),
            (begin([4, 6, 6, 0, 10, 0], [3, 1, 0]), 0),
            (plan(BY_WATER, 2), -3),
            (boat(0, 0), 0),
            (plan(BY_WATER, 2), -3),
            (begin([4, 10, 6, 0, 10, 0], [3, 1, 0]), 0),
            (boat(0, 0), 0),
            (feed(1), 0),
            (plan(BY_WATER, 2), told(3, (FILL, 0, 0), (ENTER, 0, 0), (EMPTY, 0, 0), (LEAVE, 0, 0))),
        )


class NoOperations(CanalTest):
    def test_nothing_wanted(self):
        for how in (BY_OPERATIONS, BY_WATER):
            self.plays((plan(how), [0, 0]), (CANAL, 0), (plan(how), [0, 0]), (boat(0, 0), 0), (plan(how), [0, 0]))

    def test_all_is_as_wanted(self):
        for how in (BY_OPERATIONS, BY_WATER):
            self.plays(
                (CANAL, 0),
                (boat(0, 0), 0),
                (boat(3, 1), 0),
                (plan(how, 1, 0, 0, 2), [0, 0]),
                (plan(how, 1), [0, 0]),
                (plan(how, 0, 0, 0, 2), [0, 0]),
            )

    def test_nothing_wanted_of_a_canal_with_more_than_four_thousand_stands(self):
        canal = begin([0, 1000, 500] * 6, [1, 4, 0] * 5)
        for how in (BY_OPERATIONS, BY_WATER):
            self.plays((canal, 0), (boat(2, 3), 0), (plan(how), [0, 0]), (plan(how, 0, 0, 4), [0, 0]))


class Before(CanalTest):
    """Which of two plans is before the other."""

    def test_less_water_by_more_operations(self):
        """Pound 2 needs 3 units: from lock 1 by one filling of 6, or over pound 1 by three of 1."""
        canal = begin([0, 10, 10, 0, 10, 10, 0, 10, 0, 0, 10, 0], [1, 1, 0, 6, 1, 0, 3, 1, 0])
        down = [(FILL, 2, 0), (ENTER, 0, 2), (EMPTY, 2, 0), (LEAVE, 0, 0)]
        self.plays(
            (canal, 0),
            (boat(0, 2), 0),
            (plan(BY_OPERATIONS, 4), told(0, (FILL, 1, 0), (EMPTY, 1, 0), *down)),
            (plan(BY_WATER, 4), told(6, *([(FILL, 0, 0), (EMPTY, 0, 0)] * 3 + down))),
        )

    def test_fewer_operations_of_the_same_use(self):
        """Emptying the lock first would save boat 1 from waiting, but is one operation more."""
        row = [(ENTER, 0, 0), (EMPTY, 0, 0), (LEAVE, 0, 0), (ENTER, 1, 0), (FILL, 0, 0), (LEAVE, 1, 0)]
        self.plays(
            (FULL, 0), (boat(0, 0), 0), (boat(1, 1), 0), (plan(BY_WATER, 2, 1), told(3, *row)), (run(*row), 6),
            (where(0), [0, 1]), (where(1), [0, 0]),
        )

    def test_the_first_operation_in_which_they_differ(self):
        """With room for two, boat 1 may enter before boat 0 leaves: (2, 1, 0) is before (3, 0, 0)."""
        row = [(ENTER, 0, 0), (EMPTY, 0, 0), (ENTER, 1, 0), (LEAVE, 0, 0), (FILL, 0, 0), (LEAVE, 1, 0)]
        self.plays(
            (ROOMY, 0),
            (boat(0, 0), 0),
            (boat(1, 1), 0),
            (plan(BY_OPERATIONS, 2, 1), told(0, *row)),
            (plan(BY_WATER, 2, 1), told(3, *row)),
        )

    def test_the_first_operation_decides_whatever_is_used_on_the_way(self):
        """Lock 0 is filled first, though lock 1 uses less and comes to the same stands."""
        for volume, other in ((5, 2), (2, 5), (3, 3)):
            canal = begin([0, 9, 9] * 3, [volume, 1, 0, other, 1, 0])
            row = [
                (FILL, 0, 0), (FILL, 1, 0), (ENTER, 0, 0), (EMPTY, 0, 0),
                (ENTER, 1, 1), (EMPTY, 1, 0), (LEAVE, 0, 0), (LEAVE, 1, 0),
            ]
            self.plays(
                (canal, 0),
                (boat(0, 0), 0),
                (boat(1, 1), 0),
                (plan(BY_OPERATIONS, 2, 3), told(0, *row)),
                (plan(BY_WATER, 2, 3), told(volume + other, *row)),
            )

    def test_an_operation_that_is_not_needed_is_left_out(self):
        self.plays(
            (begin([0, 9, 9] * 3, [1, 1, 1, 1, 1, 1]), 0),
            (boat(0, 1), 0),
            (plan(BY_OPERATIONS, 3), told(0, (ENTER, 0, 1), (EMPTY, 1, 0), (LEAVE, 0, 0))),
            (plan(BY_WATER, 1), told(1, (EMPTY, 0, 0), (ENTER, 0, 0), (FILL, 0, 0), (LEAVE, 0, 0))),
        )


class NoPlan(CanalTest):
    def test_a_boat_wanted_that_is_not_there(self):
        for how in (BY_OPERATIONS, BY_WATER):
            self.plays(
                (CANAL, 0),
                (plan(how, 1), -3),
                (plan(how, 0, 0, 0, 2), -3),
                (boat(0, 0), 0),
                (plan(how, 1, 1), -3),
                (plan(how, 1), [0, 0]),
                (lift(0), 0),
                (plan(how, 1), -3),
            )

    def test_too_little_water(self):
        for how in (BY_OPERATIONS, BY_WATER):
            self.plays(
                (begin([8, 10, 10, 0, 10, 0], [3, 1, 0]), 0),
                (boat(0, 0), 0),
                (plan(how, 2), -3),
                (plan(how, 1), [0, 0]),
                (begin([7, 10, 10, 0, 10, 0], [3, 1, 0]), 0),
                (boat(0, 0), 0),
                (plan(how, 2), told(3 * how, (FILL, 0, 0), (ENTER, 0, 0), (EMPTY, 0, 0), (LEAVE, 0, 0))),
            )

    def test_too_little_water_for_one_more(self):
        canal = begin([0, 10, 5, 0, 10, 0], [3, 1, 0])
        self.plays((canal, 0), (boat(0, 0), 0), (boat(1, 0), 0), (plan(BY_WATER, 2, 2), -3))
        self.plays(
            (canal, 0), (feed(1), 0), (boat(0, 0), 0), (boat(1, 0), 0),
            (plan(BY_WATER, 2, 2), told(6, *[
                (FILL, 0, 0), (ENTER, 0, 0), (EMPTY, 0, 0), (LEAVE, 0, 0),
                (FILL, 0, 0), (ENTER, 1, 0), (EMPTY, 0, 0), (LEAVE, 1, 0),
            ])),
        )

    def test_on_a_new_object(self):
        for how in (BY_OPERATIONS, BY_WATER):
            self.plays((plan(how), [0, 0]), (plan(how, 1), -1), (plan(how, 0, 0, 0, 1), -1), (plan(how, HUGE), -1))
        self.plays((plan(2), -1), (plan(HUGE), -1))


class Refused(CanalTest):
    def test_how(self):
        self.plays((CANAL, 0), (plan(0), [0, 0]), (plan(1), [0, 0]), (plan(2), -1), (plan(3), -1), (plan(HUGE), -1))

    def test_as_many_as_there_are_pounds_and_one_more(self):
        for how_many in range(2, 7):
            canal = begin([0, 9, 9] * how_many, [1, 1, 0] * (how_many - 1))
            for number in range(4):
                last = [how_many if at == number else 0 for at in range(4)]
                beyond = [how_many + 1 if at == number else 0 for at in range(4)]
                huge = [HUGE if at == number else 0 for at in range(4)]
                self.plays(
                    (canal, 0), (boat(number, how_many - 1), 0),
                    (plan(0, *last), [0, 0]), (plan(0, *beyond), -1), (plan(0, *huge), -1),
                    (plan(1, *last), [0, 0]), (plan(1, *beyond), -1), (plan(1, *huge), -1),
                )

    def test_the_first_refusal(self):
        """-1 before -8 before -3."""
        large = begin([0, 1000, 500] * 6, [1, 4, 0] * 5)
        for how in (BY_OPERATIONS, BY_WATER):
            self.plays(
                (large, 0),
                (plan(how, 1), -8),
                (plan(how, 7), -1),
                (plan(how, 1, 7), -1),
                (plan(how + 2, 1), -1),
                (CANAL, 0),
                (plan(how, 1), -3),
                (plan(how, 1, 3), -1),
                (plan(how + 2, 1), -1),
            )

    def test_high_numbers_in_every_place(self):
        for place in range(5):
            numbers = [1, 0, 0, 0, 0]
            numbers[place] = HUGE
            self.plays((CANAL, 0), (plan(*numbers), -1))


class Stands(CanalTest):
    """How many stands rows before every plan come to."""

    def test_four_thousand_without_a_plan(self):
        """With lock 0 full, lock 1 is moved 0 to 1,998 times; with it empty, 0 to 2,000 times."""
        canal = begin([0, 0, 0, 0, 1000, 999, 0, 1000, 0], [1, 1, 1, 1, 1, 0])
        for how in (BY_OPERATIONS, BY_WATER):
            self.plays((canal, 0), (plan(how, 1), -3))

    def test_four_thousand_and_one_without_a_plan(self):
        """Lock 0 is moved 0, 1 or 2 times: lock 1 then 0 to 1,332, to 1,332, to 1,334 times."""
        canal = begin([0, 1, 1, 0, 1000, 666, 0, 1000, 0], [1, 1, 0, 1, 1, 0])
        for how in (BY_OPERATIONS, BY_WATER):
            self.plays((canal, 0), (plan(how, 1), -8), (plan(how), [0, 0]))

    def test_four_thousand_before_the_plan_by_operations(self):
        """Boat 3 goes up three locks; lock 1 is emptied at once, the first of all that's needed."""
        canal = begin([0, 4, 3, 0, 20, 19, 0, 1000, 367, 0, 6, 3], [3, 2, 0, 2, 1, 1, 1, 2, 0])
        row = [
            (EMPTY, 1, 0), (ENTER, 3, 2), (FILL, 2, 0), (LEAVE, 3, 0), (ENTER, 3, 1), (FILL, 1, 0), (LEAVE, 3, 0),
            (ENTER, 3, 0), (FILL, 0, 0), (LEAVE, 3, 0),
        ]
        self.plays(
            (canal, 0), (boat(0, 0), 0), (boat(1, 2), 0), (boat(2, 0), 0), (boat(3, 3), 0),
            (plan(BY_OPERATIONS, 0, 0, 0, 1), told(0, *row)),
        )

    def test_four_thousand_and_one_before_the_plan_by_operations(self):
        canal = begin([0, 20, 15, 0, 1000, 850, 0, 50, 3, 0, 6, 6], [1, 2, 1, 31, 1, 1, 4, 2, 1])
        self.plays(
            (canal, 0), (boat(1, 2), 0), (boat(2, 3), 0), (boat(3, 1), 0), (plan(BY_OPERATIONS, 0, 1, 0, 3), -8),
        )

    def test_four_thousand_before_the_plan_by_water(self):
        canal = begin([0, 4, 2, 0, 20, 10, 0, 20, 20, 0, 20, 16], [2, 1, 1, 1, 2, 1, 11, 1, 1])
        self.plays(
            (canal, 0), (boat(0, 0), 0), (boat(1, 3), 0), (boat(3, 0), 0),
            (plan(BY_WATER, 0, 3), told(11, (EMPTY, 2, 0), (ENTER, 1, 2), (FILL, 2, 0), (LEAVE, 1, 0))),
        )

    def test_four_thousand_and_one_before_the_plan_by_water(self):
        canal = begin([0, 20, 12, 0, 6, 2, 0, 20, 14, 0, 1000, 384], [9, 2, 1, 1, 2, 0, 8, 2, 0])
        self.plays((canal, 0), (boat(2, 2), 0), (boat(3, 3), 0), (plan(BY_WATER, 0, 0, 3, 1), -8))

    def test_more_than_four_thousand_with_a_short_plan(self):
        """A plan by few operations is told; by water all that uses less is before it."""
        canal = begin([0, 1000, 500] * 6, [100, 4, 0] + [1, 4, 0] * 4)
        row = [(FILL, 0, 0), (ENTER, 0, 0), (EMPTY, 0, 0), (LEAVE, 0, 0)]
        self.plays((canal, 0), (boat(0, 0), 0), (plan(BY_OPERATIONS, 2), told(0, *row)), (plan(BY_WATER, 2), -8))

    def limited(self, most, *pairs):
        with mock.patch("canallocks.search.MOST_STANDS", most):
            self.plays(*pairs)

    def test_which_stands_count(self):
        """By operations, with f, e, n, l for filling, emptying, entering, leaving: eight stands
        are come to by none, f, fe, fn, fef, fne, fefe, fefn; and then fnel is the plan.
        By water five: by none, f, fe, fn, fne.
        """
        row = [(FILL, 0, 0), (ENTER, 0, 0), (EMPTY, 0, 0), (LEAVE, 0, 0)]
        for how, count in ((BY_OPERATIONS, 8), (BY_WATER, 5)):
            self.limited(count, (CANAL, 0), (boat(0, 0), 0), (plan(how, 2), told(3 * how, *row)))
            self.limited(count - 1, (CANAL, 0), (boat(0, 0), 0), (plan(how, 2), -8))

    def test_all_stands_count_if_there_is_no_plan(self):
        """The lock is filled and emptied three times: seven stands."""
        for how in (BY_OPERATIONS, BY_WATER):
            self.limited(7, (CANAL, 0), (plan(how, 1), -3))
            self.limited(6, (CANAL, 0), (plan(how, 1), -8))

    def test_the_stand_at_the_start_counts(self):
        nothing_to_do = begin([0, 0, 0] * 2, [1, 1, 0])
        for how in (BY_OPERATIONS, BY_WATER):
            self.limited(1, (nothing_to_do, 0), (plan(how, 1), -3), (plan(how), [0, 0]))
            self.limited(0, (nothing_to_do, 0), (plan(how, 1), -8))


class ChangesNothing(CanalTest):
    def asks_alone(self, start, numbers, wanted):
        """Plan answers so, and all there is to ask is answered as without it."""
        given = ask(start + [plan(*numbers)] + everything())
        self.assertEqual(given[len(start)][0], wanted)
        self.assertEqual(given[len(start) + 1:], ask(start + everything())[len(start):])

    def test_what_plan_leaves_as_it_is(self):
        start = [
            begin([0, 10, 9, 0, 10, 10, 0, 10, 2], [3, 1, 1, 2, 2, 0]), boat(0, 0), boat(1, 1), boat(2, 2),
            feed(7), enter(0, 0), empty(0), do(LEAVE, 0), total(),
        ]
        self.assertEqual(ask(start)[-1], [30, 1, 7])
        self.asks_alone(start, [BY_OPERATIONS, 3, 0, 1], 0)
        self.asks_alone(start, [BY_WATER, 3, 0, 1], 5)
        self.asks_alone(start, [BY_WATER, 2, 2], 0)
        self.asks_alone(start, [BY_WATER, 0, 4], -1)
        self.asks_alone(start, [2], -1)

    def test_where_there_is_no_plan(self):
        for how in (BY_OPERATIONS, BY_WATER):
            self.asks_alone([FULL, boat(0, 0), feed(3), enter(0, 0), empty(0)], [how, 1, 1], -3)

    def test_a_search_that_is_given_up(self):
        for how in (BY_OPERATIONS, BY_WATER):
            self.asks_alone([begin([0, 1000, 500] * 6, [1, 4, 0] * 5), boat(0, 0)], [how, 6], -8)

    def test_the_same_plan_is_told_twice(self):
        self.plays(
            (ROOMY, 0), (boat(0, 0), 0),
            (plan(BY_WATER, 2), told(0, (ENTER, 0, 0), (EMPTY, 0, 0), (LEAVE, 0, 0))),
            (plan(BY_WATER, 2), told(0, (ENTER, 0, 0), (EMPTY, 0, 0), (LEAVE, 0, 0))),
            (moves(), [2, 1, 0, 0, 2, 0, 0]), (total(), [13, 0, 0]), (lock(0), [1, 0]), (pound(0), [10, 1]),
        )


if __name__ == "__main__":
    unittest.main()
