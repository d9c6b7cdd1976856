"""The calls lock, where and sum."""

import unittest

from helper import (
    HUGE, CanalTest, begin, boat, empty, enter, feed, fill, leave, lift, lock, pound, total, where,
)

CANAL = begin([0, 10, 5, 0, 10, 6, 0, 10, 7], [2, 4, 1, 3, 4, 0])


class Lock(CanalTest):
    def test_full_and_empty(self):
        self.plays((CANAL, 0), (lock(0), [1, 0]), (lock(1), [0, 0]))

    def test_filled_and_emptied(self):
        self.plays((CANAL, 0), (empty(0), 0), (lock(0), [0, 0]), (fill(1), 0), (lock(1), [1, 0]), (lock(0), [0, 0]))

    def test_boats_in_it(self):
        self.plays(
            (CANAL, 0),
            (boat(0, 0), 0),
            (boat(3, 0), 0),
            (boat(1, 1), 0),
            (lock(0), [1, 0]),
            (enter(0, 0), 0),
            (lock(0), [1, 1]),
            (enter(3, 0), 0),
            (lock(0), [1, 2]),
            (lock(1), [0, 0]),
            (empty(0), 0),
            (lock(0), [0, 2]),
            (enter(1, 0), 0),
            (lock(0), [0, 3]),
            (leave(3), 1),
            (lock(0), [0, 2]),
        )

    def test_boats_in_the_pounds_beside_do_not_count(self):
        self.plays((CANAL, 0), (boat(0, 0), 0), (boat(1, 1), 0), (boat(2, 2), 0), (lock(0), [1, 0]), (lock(1), [0, 0]))

    def test_locks_that_are_not_there(self):
        self.plays((CANAL, 0), (lock(2), -4), (lock(3), -4), (lock(HUGE), -4))
        self.plays((begin([0, 1, 0] * 6, [1, 1, 1] * 5), 0), (lock(4), [1, 0]), (lock(5), -4))

    def test_on_a_new_object(self):
        self.plays((lock(0), -4), (lock(HUGE), -4))


class Where(CanalTest):
    def test_in_each_pound(self):
        self.plays(
            (CANAL, 0),
            (boat(0, 2), 0),
            (boat(1, 0), 0),
            (boat(3, 1), 0),
            (where(0), [0, 2]),
            (where(1), [0, 0]),
            (where(2), -4),
            (where(3), [0, 1]),
        )

    def test_in_each_lock(self):
        self.plays(
            (CANAL, 0),
            (boat(0, 0), 0),
            (boat(1, 2), 0),
            (enter(0, 0), 0),
            (where(0), [1, 0]),
            (enter(1, 1), 0),
            (where(1), [1, 1]),
            (empty(0), 0),
            (where(0), [1, 0]),
            (leave(0), 1),
            (where(0), [0, 1]),
            (leave(1), 2),
            (where(1), [0, 2]),
        )

    def test_boats_that_are_not_there(self):
        self.plays((CANAL, 0), (where(0), -4), (where(3), -4), (where(4), -4), (where(HUGE), -4))

    def test_a_boat_that_was_lifted(self):
        self.plays((CANAL, 0), (boat(2, 1), 0), (lift(2), 0), (where(2), -4), (boat(2, 0), 0), (where(2), [0, 0]))

    def test_behind_a_second_begin(self):
        self.plays((CANAL, 0), (boat(2, 1), 0), (CANAL, 0), (where(2), -4))

    def test_on_a_new_object(self):
        self.plays((where(0), -4), (where(4), -4), (where(HUGE), -4))


class Sum(CanalTest):
    def test_pounds_and_full_locks(self):
        self.plays((CANAL, 0), (total(), [20, 0, 0]))
        self.plays((begin([0, 9, 1, 0, 9, 2, 1, 9, 4], [100, 1, 0, 90, 1, 0]), 0), (total(), [7, 0, 0]))
        self.plays((begin([0, 9, 1, 0, 9, 2, 1, 9, 4], [100, 1, 1, 90, 1, 1]), 0), (total(), [197, 0, 0]))

    def test_operations_within_the_canal_leave_it_as_it_is(self):
        self.plays(
            (CANAL, 0),
            (fill(1), 0),
            (total(), [20, 0, 0]),
            (empty(0), 0),
            (total(), [20, 0, 0]),
            (empty(1), 0),
            (total(), [20, 0, 0]),
            (boat(0, 1), 0),
            (enter(0, 0), 0),
            (fill(0), 0),
            (leave(0), 0),
            (lift(0), 0),
            (total(), [20, 0, 0]),
        )

    def test_what_leaves_by_emptying(self):
        self.plays(
            (begin([0, 10, 5, 0, 10, 9], [3, 1, 1]), 0),
            (empty(0), 2),
            (total(), [15, 2, 0]),
            (fill(0), 0),
            (total(), [15, 2, 0]),
            (empty(0), 3),
            (total(), [12, 5, 0]),
        )

    def test_what_comes_in_and_leaves_by_feed(self):
        self.plays(
            (CANAL, 0),
            (feed(4), 0),
            (total(), [24, 0, 4]),
            (feed(0), 0),
            (total(), [24, 0, 4]),
            (feed(10), 2),
            (total(), [32, 2, 14]),
            (feed(10000), 10000),
            (total(), [32, 10002, 10014]),
        )

    def test_what_is_refused_does_not_count(self):
        self.plays((CANAL, 0), (feed(10001), -1), (empty(1), -3), (fill(0), -3), (total(), [20, 0, 0]))

    def test_behind_a_second_begin(self):
        self.plays(
            (CANAL, 0),
            (feed(20), 8),
            (total(), [32, 8, 20]),
            (begin([0, 10, 5, 0, 10, 9], [3, 1, 1]), 0),
            (total(), [17, 0, 0]),
            (empty(0), 2),
            (total(), [15, 2, 0]),
            (begin([], []), -1),
            (total(), [15, 2, 0]),
            (CANAL, 0),
            (total(), [20, 0, 0]),
        )

    def test_on_a_new_object(self):
        self.plays(
            (total(), [0, 0, 0]),
            (feed(5), -4),
            (begin([], []), -1),
            (total(), [0, 0, 0]),
            (pound(0), -4),
            (total(), [0, 0, 0]),
        )

    def test_the_most_water_there_can_be(self):
        self.plays((begin([1000, 1000, 1000] * 6, [100, 4, 1] * 5), 0), (total(), [6500, 0, 0]))


if __name__ == "__main__":
    unittest.main()
