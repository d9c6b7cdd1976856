"""The call begin: which canals there can be, and what a new canal is."""

import unittest

from helper import HUGE, CanalTest, ask, begin, boat, empty, enter, feed, fill, lift, pound, pounds, total

POUND = [0, 10, 5]
LOCK = [2, 1, 0]


class Sizes(CanalTest):
    def test_two_to_six_pounds(self):
        for how_many in range(9):
            wanted = 0 if 2 <= how_many <= 6 else -1
            call = begin(POUND * how_many, LOCK * max(how_many - 1, 0))
            self.plays((call, wanted))

    def test_every_pound_is_there(self):
        numbers = []
        for number in range(6):
            numbers += [number, 100 + number, 50 + number]
        told = ask([begin(numbers, LOCK * 5)] + pounds(7))
        self.assertEqual(told[0], [0])
        self.assertEqual(told[1:7], [[50 + number, 0] for number in range(6)])
        self.assertEqual(told[7], [-4])

    def test_one_lock_less(self):
        for how_many in range(2, 7):
            for locks in range(9):
                wanted = 0 if locks == how_many - 1 else -1
                self.plays((begin(POUND * how_many, LOCK * locks), wanted))

    def test_numbers_in_threes(self):
        pound_numbers = POUND * 3
        lock_numbers = LOCK * 3
        for cut in range(10):
            for lock_cut in range(10):
                wanted = 0 if cut == 9 and lock_cut == 6 else -1
                if (cut, lock_cut) == (6, 3):
                    wanted = 0
                self.plays((begin(pound_numbers[:cut], lock_numbers[:lock_cut]), wanted))

    def test_empty_lists(self):
        self.plays(
            (begin([], []), -1),
            (begin(POUND * 2, []), -1),
            (begin([], LOCK), -1),
            (pound(0), -4),
        )

    def test_long_lists(self):
        self.plays((begin([1] * 14000, [1] * 13999), -1))
        self.plays((begin(POUND * 4666, LOCK * 4665), -1))


class Numbers(CanalTest):
    def pound_answers(self, three, wanted):
        """A pound is the same to begin wherever it stands."""
        for place in range(3):
            numbers = POUND * place + three + POUND * (2 - place)
            with self.subTest(three=three, place=place):
                self.plays((begin(numbers, LOCK * 2), wanted))

    def lock_answers(self, three, wanted):
        for place in range(3):
            numbers = LOCK * place + three + LOCK * (2 - place)
            with self.subTest(three=three, place=place):
                self.plays((begin(POUND * 4, numbers), wanted))

    def test_water_between_least_and_most(self):
        self.pound_answers([3, 7, 2], -1)
        self.pound_answers([3, 7, 3], 0)
        self.pound_answers([3, 7, 7], 0)
        self.pound_answers([3, 7, 8], -1)
        self.pound_answers([0, 0, 0], 0)
        self.pound_answers([5, 5, 5], 0)
        self.pound_answers([0, 7, HUGE], -1)

    def test_least_above_most(self):
        self.pound_answers([7, 6, 6], -1)
        self.pound_answers([7, 6, 7], -1)
        self.pound_answers([HUGE, 10, 5], -1)

    def test_most_of_a_thousand(self):
        self.pound_answers([0, 1000, 1000], 0)
        self.pound_answers([1000, 1000, 1000], 0)
        self.pound_answers([0, 1001, 1000], -1)
        self.pound_answers([0, 1001, 1001], -1)
        self.pound_answers([0, 1001, 0], -1)
        self.pound_answers([0, HUGE, 5], -1)
        self.pound_answers([HUGE, HUGE, HUGE], -1)

    def test_volume(self):
        for volume, wanted in ((0, -1), (1, 0), (100, 0), (101, -1), (HUGE, -1)):
            self.lock_answers([volume, 1, 0], wanted)

    def test_room(self):
        for room, wanted in ((0, -1), (1, 0), (4, 0), (5, -1), (HUGE, -1)):
            self.lock_answers([1, room, 0], wanted)

    def test_full_or_empty(self):
        for full, wanted in ((0, 0), (1, 0), (2, -1), (HUGE, -1)):
            self.lock_answers([1, 1, full], wanted)

    def test_a_full_lock_is_full_and_an_empty_one_empty(self):
        self.plays(
            (begin(POUND * 3, [2, 1, 1, 2, 1, 0]), 0),
            (fill(0), -3),
            (empty(1), -3),
            (empty(0), 0),
            (fill(1), 0),
        )

    def test_a_full_lock_takes_nothing_from_its_pound_at_the_start(self):
        self.plays((begin([0, 10, 0, 0, 10, 0], [100, 1, 1]), 0), (pound(0), [0, 0]))


class Again(CanalTest):
    FIRST = begin([0, 10, 5, 0, 10, 10], [2, 1, 0])
    SECOND = begin([1, 20, 9, 2, 30, 8, 3, 40, 7], [4, 2, 1, 6, 3, 0])

    def test_a_second_begin_is_a_new_canal(self):
        self.plays(
            (self.FIRST, 0),
            (boat(0, 0), 0),
            (fill(0), 0),
            (feed(40), 33),
            (self.SECOND, 0),
            (pound(0), [9, 0]),
            (pound(1), [8, 0]),
            (pound(2), [7, 0]),
            (pound(3), -4),
            (fill(0), -3),
            (lift(0), -4),
            (boat(0, 0), 0),
            (pound(0), [9, 1]),
        )

    def test_a_boat_in_a_lock_is_not_there_after_a_second_begin(self):
        self.plays(
            (begin([0, 10, 5, 0, 10, 10], [2, 1, 1]), 0),
            (boat(3, 0), 0),
            (enter(3, 0), 0),
            (begin([0, 10, 5, 0, 10, 10], [2, 1, 1]), 0),
            (lift(3), -4),
            (boat(1, 0), 0),
            (enter(1, 0), 0),
        )

    def test_a_smaller_canal_after_a_larger_one(self):
        self.plays((self.SECOND, 0), (self.FIRST, 0), (pound(2), -4), (fill(1), -4))

    def test_a_refused_begin_changes_nothing(self):
        refused = (
            begin([], []),
            begin([0, 1, 1] * 2, [1, 1]),
            begin([0, 1, 1] * 2, [1, 1, 2]),
            begin([0, 1, 1] * 2, [1, 1, 0] * 2),
            begin([0, 1, 1, 0, 1, 2], [1, 1, 0]),
            begin([0, 1, 1] * 7, [1, 1, 0] * 6),
        )
        for call in refused:
            self.plays(
                (self.FIRST, 0),
                (boat(0, 0), 0),
                (fill(0), 0),
                (boat(1, 0), 0),
                (enter(1, 0), 0),
                (call, -1),
                (pound(0), [3, 1]),
                (pound(1), [10, 0]),
                (pound(2), -4),
                (boat(0, 0), -5),
                (lift(1), -3),
                (fill(0), -3),
                (empty(0), 2),
            )

    def test_a_refused_begin_leaves_a_new_object_without_pounds(self):
        self.plays((begin(POUND * 2, LOCK * 2), -1), (pound(0), -4), (fill(0), -4), (feed(0), -4))


class Account(CanalTest):
    def test_since_begin(self):
        canal = begin([0, 10, 5, 0, 10, 10], [2, 1, 1])
        self.plays(
            (total(), [0, 0, 0]),
            (canal, 0),
            (total(), [17, 0, 0]),
            (feed(4), 0),
            (total(), [21, 0, 4]),
            (empty(0), 2),
            (total(), [19, 2, 4]),
            (feed(7), 6),
            (total(), [20, 8, 11]),
            (feed(10001), -1),
            (begin([], []), -1),
            (total(), [20, 8, 11]),
            (canal, 0),
            (total(), [17, 0, 0]),
        )


if __name__ == "__main__":
    unittest.main()
