"""The call do: the four kinds of operations."""

import unittest

from helper import (
    EMPTY, ENTER, FILL, HUGE, LEAVE, CanalTest, begin, boat, do, empty, enter, feed, fill, leave, lift, pound,
)

CANAL = begin([0, 10, 5, 0, 10, 6, 0, 10, 7], [2, 4, 1, 3, 4, 0])


def two_pounds(upper, lower, lock):
    return begin(list(upper) + list(lower), lock)


class Fill(CanalTest):
    def test_it_takes_from_the_pound_above(self):
        self.plays((CANAL, 0), (fill(1), 0), (pound(0), [5, 0]), (pound(1), [3, 0]), (pound(2), [7, 0]))

    def test_locks_that_are_not_there(self):
        self.plays((CANAL, 0), (fill(2), -4), (fill(3), -4), (fill(HUGE), -4), (fill(1), 0))

    def test_a_full_lock(self):
        self.plays((CANAL, 0), (fill(0), -3), (pound(0), [5, 0]), (fill(1), 0), (fill(1), -3), (pound(1), [3, 0]))

    def test_down_to_the_least(self):
        for least in (0, 1, 20):
            upper = [least, 100, least + 50]
            self.plays((two_pounds(upper, [0, 9, 0], [50, 1, 0]), 0), (fill(0), 0), (pound(0), [least, 0]))

    def test_one_unit_below_the_least(self):
        for least in (0, 1, 20):
            upper = [least, 100, least + 49]
            self.plays(
                (two_pounds(upper, [0, 9, 0], [50, 1, 0]), 0),
                (fill(0), -2),
                (pound(0), [least + 49, 0]),
                (empty(0), -3),
                (feed(1), 0),
                (fill(0), 0),
                (pound(0), [least, 0]),
            )

    def test_the_first_refusal(self):
        self.plays((two_pounds([5, 9, 5], [0, 9, 0], [1, 1, 1]), 0), (fill(0), -3), (fill(1), -4))


class Empty(CanalTest):
    def test_it_pours_into_the_pound_below(self):
        self.plays((CANAL, 0), (empty(0), 0), (pound(0), [5, 0]), (pound(1), [8, 0]), (pound(2), [7, 0]))

    def test_locks_that_are_not_there(self):
        self.plays((CANAL, 0), (empty(2), -4), (empty(3), -4), (empty(HUGE), -4), (empty(0), 0))

    def test_an_empty_lock(self):
        self.plays((CANAL, 0), (empty(1), -3), (empty(0), 0), (empty(0), -3), (pound(1), [8, 0]))

    def test_just_to_the_most(self):
        self.plays(
            (begin([0, 9, 9, 0, 10, 6, 0, 5, 1], [4, 1, 1, 1, 1, 0]), 0),
            (empty(0), 0),
            (pound(0), [9, 0]),
            (pound(1), [10, 0]),
            (pound(2), [1, 0]),
        )

    def test_over_one_pound(self):
        self.plays(
            (begin([0, 9, 9, 0, 10, 6, 0, 5, 1], [5, 1, 1, 1, 1, 0]), 0),
            (empty(0), 0),
            (pound(1), [10, 0]),
            (pound(2), [2, 0]),
        )

    def test_over_several_pounds(self):
        canal = begin([0, 9, 9] + [0, 10, 8] + [2, 7, 7] + [0, 5, 2] + [0, 4, 0], [9, 1, 1] + [1, 1, 0] * 3)
        self.plays(
            (canal, 0),
            (empty(0), 0),
            (pound(1), [10, 0]),
            (pound(2), [7, 0]),
            (pound(3), [5, 0]),
            (pound(4), [4, 0]),
        )

    def test_out_of_the_canal(self):
        canal = begin([0, 9, 9] + [0, 10, 8] + [0, 5, 2], [100, 1, 1, 1, 1, 0])
        self.plays((canal, 0), (empty(0), 95), (pound(0), [9, 0]), (pound(1), [10, 0]), (pound(2), [5, 0]))

    def test_the_last_lock(self):
        self.plays(
            (two_pounds([0, 9, 9], [0, 9, 7], [3, 1, 1]), 0),
            (empty(0), 1),
            (pound(1), [9, 0]),
            (fill(0), 0),
            (empty(0), 3),
            (pound(0), [6, 0]),
        )

    def test_only_what_leaves_by_it_is_told(self):
        self.plays(
            (two_pounds([0, 9, 9], [0, 9, 9], [3, 1, 1]), 0), (feed(5), 5), (empty(0), 3), (fill(0), 0), (empty(0), 3)
        )


class Enter(CanalTest):
    def test_from_above_into_a_full_lock(self):
        self.plays((CANAL, 0), (boat(0, 0), 0), (enter(0, 0), 0), (pound(0), [5, 0]), (pound(1), [6, 0]))

    def test_from_below_into_an_empty_lock(self):
        self.plays((CANAL, 0), (boat(3, 2), 0), (enter(3, 1), 0), (pound(2), [7, 0]), (leave(3), 2))

    def test_a_boat_that_is_not_there(self):
        self.plays(
            (CANAL, 0), (enter(0, 0), -4), (boat(0, 0), 0), (enter(1, 0), -4), (enter(4, 0), -4), (enter(HUGE, 0), -4)
        )

    def test_a_boat_that_was_lifted(self):
        self.plays((CANAL, 0), (boat(0, 0), 0), (lift(0), 0), (enter(0, 0), -4))

    def test_locks_that_are_not_there(self):
        self.plays((CANAL, 0), (boat(0, 2), 0), (enter(0, 2), -4), (enter(0, 3), -4), (enter(0, HUGE), -4))

    def test_pounds_that_are_not_beside_the_lock(self):
        self.plays(
            (CANAL, 0),
            (boat(0, 0), 0),
            (boat(2, 2), 0),
            (enter(0, 1), -3),
            (enter(2, 0), -3),
            (fill(1), 0),
            (empty(0), 0),
            (enter(0, 1), -3),
            (enter(2, 0), -3),
            (pound(0), [5, 1]),
            (pound(2), [7, 1]),
        )

    def test_a_boat_in_a_lock(self):
        self.plays((CANAL, 0), (boat(0, 0), 0), (enter(0, 0), 0), (enter(0, 0), -3), (enter(0, 1), -3), (leave(0), 0))

    def test_a_boat_in_a_lock_beside_whose_number_the_pound_would_fit(self):
        self.plays(
            (begin([0, 10, 5] * 3, [2, 4, 0, 2, 4, 1]), 0),
            (boat(0, 1), 0),
            (enter(0, 1), 0),
            (enter(0, 0), -3),
            (enter(0, 1), -3),
            (empty(1), 0),
            (leave(0), 2),
        )

    def test_a_lock_that_is_not_level(self):
        self.plays(
            (CANAL, 0),
            (boat(0, 1), 0),
            (enter(0, 0), -2),
            (enter(0, 1), -2),
            (pound(1), [6, 1]),
            (fill(1), 0),
            (enter(0, 1), 0),
        )

    def test_a_lock_whose_room_is_just_taken(self):
        for room in range(1, 5):
            pairs = [(two_pounds([0, 9, 9], [0, 9, 9], [1, room, 1]), 0)]
            pairs += [(boat(number, 0), 0) for number in range(4)]
            pairs += [(enter(number, 0), 0 if number < room else -5) for number in range(4)]
            pairs += [(pound(0), [9, 4 - room]), (leave(0), 0), (enter(0, 0), 0)]
            self.plays(*pairs)

    def test_room_comes_free_again(self):
        self.plays(
            (two_pounds([0, 9, 9], [0, 9, 9], [1, 1, 1]), 0),
            (boat(0, 0), 0),
            (boat(1, 0), 0),
            (enter(0, 0), 0),
            (enter(1, 0), -5),
            (leave(0), 0),
            (enter(1, 0), 0),
            (enter(0, 0), -5),
        )

    def test_each_lock_has_its_own_room(self):
        self.plays(
            (begin([0, 9, 9] * 3, [1, 1, 0, 1, 2, 1]), 0),
            (boat(0, 1), 0),
            (boat(1, 1), 0),
            (boat(2, 1), 0),
            (enter(0, 0), 0),
            (enter(1, 0), -5),
            (enter(1, 1), 0),
            (enter(2, 1), 0),
            (pound(1), [9, 0]),
        )

    def test_the_first_refusal(self):
        self.plays(
            (begin([0, 9, 9] * 4, [1, 1, 1, 1, 1, 0, 1, 1, 0]), 0),
            (boat(0, 0), 0),
            (boat(1, 0), 0),
            (boat(2, 1), 0),
            (boat(3, 2), 0),
            (enter(0, 0), 0),
            (enter(0, 0), -3),
            (enter(2, 0), -2),
            (enter(3, 0), -3),
            (enter(1, 0), -5),
            (enter(0, 3), -4),
            (empty(0), 1),
            (enter(1, 0), -2),
        )


class Leave(CanalTest):
    def test_into_the_pound_above(self):
        self.plays((CANAL, 0), (boat(0, 0), 0), (enter(0, 0), 0), (leave(0), 0), (pound(0), [5, 1]))

    def test_into_the_pound_below(self):
        self.plays(
            (CANAL, 0),
            (boat(0, 0), 0),
            (enter(0, 0), 0),
            (empty(0), 0),
            (leave(0), 1),
            (pound(1), [8, 1]),
            (pound(0), [5, 0]),
        )

    def test_up_through_a_lock(self):
        self.plays(
            (CANAL, 0),
            (boat(0, 2), 0),
            (enter(0, 1), 0),
            (fill(1), 0),
            (leave(0), 1),
            (pound(1), [3, 1]),
            (pound(2), [7, 0]),
        )

    def test_several_boats_leave_one_by_one(self):
        self.plays(
            (CANAL, 0),
            (boat(0, 0), 0),
            (boat(1, 0), 0),
            (enter(0, 0), 0),
            (enter(1, 0), 0),
            (empty(0), 0),
            (leave(1), 1),
            (leave(0), 1),
            (pound(1), [8, 2]),
        )

    def test_a_boat_that_is_not_there(self):
        self.plays((CANAL, 0), (leave(0), -4), (leave(3), -4), (leave(4), -4), (leave(HUGE), -4))

    def test_a_boat_that_is_in_no_lock(self):
        self.plays((CANAL, 0), (boat(0, 1), 0), (leave(0), -3), (boat(1, 0), 0), (leave(1), -3), (pound(0), [5, 1]))


class Kinds(CanalTest):
    def test_the_third_number_plays_no_part_but_of_entering(self):
        for third in (1, 2, 5, HUGE):
            self.plays(
                (CANAL, 0),
                (do(FILL, 1, third), 0),
                (do(FILL, 0, third), -3),
                (do(EMPTY, 1, third), 0),
                (do(EMPTY, 1, third), -3),
                (boat(0, 0), 0),
                (do(LEAVE, 0, third), -3),
                (do(ENTER, 0, 0), 0),
                (do(LEAVE, 0, third), 0),
                (do(LEAVE, 1, third), -4),
                (do(FILL, 9, third), -4),
                (do(EMPTY, 9, third), -4),
            )

    def test_kinds_above_three(self):
        for kind in (4, 5, 6, 1000, HUGE):
            self.plays(
                (do(kind, 0, 0), -4),
                (CANAL, 0),
                (boat(0, 0), 0),
                (enter(0, 0), 0),
                (do(kind, 0, 0), -4),
                (do(kind, HUGE, HUGE), -4),
                (pound(0), [5, 0]),
                (leave(0), 0),
            )

    def test_on_a_new_object(self):
        for kind in (0, 1, 2, 3, 4, HUGE):
            for a in (0, 1, HUGE):
                self.plays((do(kind, a, 0), -4), (do(kind, a, 1), -4), (do(kind, a, HUGE), -4))


if __name__ == "__main__":
    unittest.main()
