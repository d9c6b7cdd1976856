"""The call run."""

import unittest

from helper import (
    EMPTY, ENTER, FILL, HUGE, LEAVE, CanalTest, ask, begin, boat, everything, lock, pound, run, run_numbers, total,
    where,
)

CANAL = begin([0, 10, 5, 0, 10, 9], [3, 1, 1])
LONG = begin([0, 1000, 1000, 0, 1000, 0], [1, 1, 0])
BACK_AND_FORTH = [(FILL, 0, 0), (EMPTY, 0, 0)]


class Run(CanalTest):
    def test_one_after_another(self):
        self.plays(
            (CANAL, 0),
            (boat(1, 0), 0),
            (run((ENTER, 1, 0), (EMPTY, 0, 0), (LEAVE, 1, 0), (FILL, 0, 0)), 4),
            (where(1), [0, 1]),
            (lock(0), [1, 0]),
            (pound(0), [2, 0]),
            (pound(1), [10, 1]),
            (total(), [15, 2, 0]),
        )

    def test_it_stops_midway(self):
        self.plays(
            (CANAL, 0),
            (boat(1, 0), 0),
            (run((ENTER, 1, 0), (EMPTY, 0, 0), (EMPTY, 0, 0), (LEAVE, 1, 0)), 2),
            (where(1), [1, 0]),
            (lock(0), [0, 1]),
            (total(), [15, 2, 0]),
        )

    def test_it_stops_at_the_first(self):
        self.plays(
            (CANAL, 0),
            (run((FILL, 0, 0), (EMPTY, 0, 0)), 0),
            (lock(0), [1, 0]),
            (run((ENTER, 0, 0), (EMPTY, 0, 0)), 0),
            (run((LEAVE, 0, 0), (EMPTY, 0, 0)), 0),
            (lock(0), [1, 0]),
            (total(), [17, 0, 0]),
        )

    def test_it_stops_at_the_last(self):
        self.plays((CANAL, 0), (run((EMPTY, 0, 0), (FILL, 0, 0), (FILL, 0, 0)), 2), (lock(0), [1, 0]))

    def test_one_operation(self):
        self.plays((CANAL, 0), (run((EMPTY, 0, 0)), 1), (run((EMPTY, 0, 0)), 0), (lock(0), [0, 0]))

    def test_no_operation(self):
        self.plays((run(), 0), (CANAL, 0), (run(), 0), (total(), [17, 0, 0]))

    def test_a_hundred_operations_and_one_more(self):
        self.plays(
            (LONG, 0),
            (run(*BACK_AND_FORTH * 50), 100),
            (pound(0), [950, 0]),
            (pound(1), [50, 0]),
            (run(*BACK_AND_FORTH * 50 + [(FILL, 0, 0)]), -1),
            (pound(0), [950, 0]),
            (lock(0), [0, 0]),
            (run(*(BACK_AND_FORTH * 50)[:99]), 99),
            (lock(0), [1, 0]),
        )

    def test_more_than_a_hundred_of_which_the_first_cannot_be_done(self):
        self.plays((LONG, 0), (run(*[(EMPTY, 0, 0)] * 100), 0), (run(*[(EMPTY, 0, 0)] * 101), -1))

    def test_numbers_not_in_threes(self):
        for length in range(1, 12):
            numbers = [FILL, 0, 0, EMPTY, 0, 0, FILL, 0, 0, EMPTY, 0, 0][:length]
            done = length // 3 if length % 3 == 0 else -1
            self.plays((LONG, 0), (run_numbers(numbers), done), (pound(0), [1000 - (max(done, 0) + 1) // 2, 0]))
        for length in (298, 299, 301, 302, 28999):
            self.plays((LONG, 0), (run_numbers([0] * length), -1), (lock(0), [0, 0]))

    def test_the_longest_list(self):
        for length in (28998, 29000):
            self.plays((LONG, 0), (run_numbers([0] * length), -1), (lock(0), [0, 0]))

    def test_the_third_number_plays_no_part_but_of_entering(self):
        for third in (0, 1, 7, HUGE):
            self.plays(
                (CANAL, 0),
                (boat(2, 0), 0),
                (run((ENTER, 2, 0), (EMPTY, 0, third), (LEAVE, 2, third), (FILL, 0, third)), 4),
                (where(2), [0, 1]),
                (run((ENTER, 2, third)), 0),
            )

    def test_kinds_above_three(self):
        for kind in (4, 5, HUGE):
            self.plays(
                (CANAL, 0), (run((kind, 0, 0)), 0), (run((EMPTY, 0, 0), (kind, 0, 0), (FILL, 0, 0)), 1), (lock(0), [0, 0])
            )

    def test_high_numbers_in_every_place(self):
        for operation in ((HUGE, 0, 0), (FILL, HUGE, 0), (EMPTY, HUGE, 0), (ENTER, HUGE, 0), (ENTER, 0, HUGE),
                          (LEAVE, HUGE, 0), (HUGE, HUGE, HUGE), (ENTER, HUGE, HUGE)):
            self.plays((CANAL, 0), (boat(0, 0), 0), (run(operation), 0), (run((EMPTY, 0, 0), operation), 1))

    def test_on_a_new_object(self):
        self.plays(
            (run(), 0),
            (run((FILL, 0, 0)), 0),
            (run((EMPTY, 0, 0), (FILL, 0, 0)), 0),
            (run((ENTER, 0, 0)), 0),
            (run((LEAVE, 0, 0)), 0),
            (run(*[(FILL, 0, 0)] * 100), 0),
            (run(*[(FILL, 0, 0)] * 101), -1),
            (run_numbers([0]), -1),
            (run_numbers([HUGE, HUGE]), -1),
        )

    def test_a_refused_run_changes_nothing(self):
        before = [CANAL, boat(0, 0)]
        asked = ask(before + everything())[2:]
        for refused in (run_numbers([EMPTY, 0]), run_numbers([EMPTY, 0, 0, FILL]), run(*[(EMPTY, 0, 0)] * 101)):
            told = ask(before + [refused] + everything())
            self.assertEqual(told[2], [-1])
            self.assertEqual(told[3:], asked)

    def test_a_run_is_as_its_operations_one_by_one(self):
        row = [(ENTER, 0, 0), (EMPTY, 0, 0), (LEAVE, 0, 0), (FILL, 0, 0), (EMPTY, 0, 0), (ENTER, 0, 0), (LEAVE, 1, 0)]
        for length in range(len(row) + 1):
            one_by_one = [[3] + list(operation) for operation in row[:length]]
            asked = ask([CANAL, boat(0, 0)] + one_by_one + everything())[2 + length:]
            told = ask([CANAL, boat(0, 0), run(*row[:length])] + everything())
            self.assertEqual(told[2], [min(length, 6)])
            self.assertEqual(told[3:], asked)


if __name__ == "__main__":
    unittest.main()
