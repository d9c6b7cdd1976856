"""The largest cases that the interface allows are answered in seconds."""

import time
import unittest

from canallocks.canal import answers
from helper import HUGE, ask, begin, boat, do, flat, plan, run, run_numbers, weight

SECONDS = 60
HEAVIEST = 1000000

WIDE = begin([0, 1000, 500] * 6, [1, 4, 1, 2, 4, 0, 3, 4, 1, 5, 4, 0, 7, 4, 1])
FULL = begin([0, 1000, 1000] * 6, [100, 4, 1] * 5)
DEEP = begin([0, 1000, 1000] * 2, [1, 4, 0])


class Largest(unittest.TestCase):
    def plans(self, start, asked):
        """As many plans as can be asked, in turn; each comes to more than 4,000 stands."""
        calls = list(start)
        while weight(calls + [asked[len(calls) % len(asked)]]) <= HEAVIEST:
            calls.append(asked[len(calls) % len(asked)])
        self.assertGreater(len(calls) - len(start), 65)
        began = time.perf_counter()
        told = ask(calls)
        self.assertLess(time.perf_counter() - began, SECONDS)
        self.assertEqual(told, [[0]] * len(start) + [[-8]] * (len(calls) - len(start)))

    def test_four_boats_and_all_locks(self):
        start = [WIDE, boat(0, 0), boat(1, 2), boat(2, 3), boat(3, 5)]
        self.plans(start, [plan(0, 6, 1, 6, 1), plan(1, 6, 1, 6, 1)])

    def test_four_boats_between_many_locks_by_water(self):
        start = [FULL, boat(0, 1), boat(1, 2), boat(2, 3), boat(3, 4)]
        self.plans(start, [plan(1, 6, 1, 6, 1), plan(1, 1, 1, 1, 1)])

    def test_water_alone(self):
        self.plans([WIDE], [plan(0, 1), plan(1, 0, 0, 0, 1)])

    def test_long_rows_of_operations(self):
        """With one boat a stand lies up to thousands of operations away."""
        self.plans([DEEP, boat(0, 0)], [plan(0, 0, 1), plan(1, 0, 1)])

    def test_many_calls(self):
        calls = [DEEP, boat(0, 0)] + [run(*[(0, 0, 0), (1, 0, 0)] * 2)] * 145
        self.assertLessEqual(weight(calls), HEAVIEST)
        began = time.perf_counter()
        self.assertEqual(ask(calls), [[0], [0]] + [[4]] * 145)
        self.assertLess(time.perf_counter() - began, SECONDS)

    def test_the_longest_lists(self):
        for calls in ([begin([HUGE] * 14000, [HUGE] * 14000)], [DEEP, run_numbers([HUGE] * 29000)]):
            began = time.perf_counter()
            self.assertEqual(ask(calls)[-1], [-1])
            self.assertLess(time.perf_counter() - began, SECONDS)

    def test_four_hundred_calls(self):
        calls = [DEEP] + [do(0, 0), do(1, 0)] * 199 + [do(0, 0)]
        began = time.perf_counter()
        given = answers(flat(calls))
        self.assertLess(time.perf_counter() - began, SECONDS)
        self.assertEqual(given, [1, 0] + [1, 0, 1, 1] * 199 + [1, 0])


if __name__ == "__main__":
    unittest.main()
