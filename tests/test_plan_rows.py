"""Plans against all rows of operations up to some length, and against the document told anew."""

import itertools
import unittest

from helper import CanalTest, Numbers, Told, ask, do, flat, plan, run_numbers, where

LONGEST = 6

N = None
SMALL = (
    (Told([(0, 4, 4), (0, 4, 0)], [(2, 1, 0)]), [(0, 0), (0, 1), N, N]),
    (Told([(0, 4, 4), (0, 4, 0)], [(2, 1, 1)]), [(0, 0), (0, 1), N, N]),
    (Told([(0, 4, 4), (0, 4, 2)], [(1, 2, 1)]), [(0, 0), (0, 0), N, (0, 1)]),
    (Told([(1, 4, 4), (0, 2, 2)], [(3, 2, 0)]), [N, (0, 1), (0, 1), N]),
    (Told([(0, 4, 3), (0, 4, 3), (0, 4, 3)], [(2, 1, 0), (1, 1, 0)]), [(0, 0), (0, 1), N, N]),
    (Told([(0, 4, 3), (0, 4, 4), (0, 4, 0)], [(1, 1, 1), (3, 1, 0)]), [(0, 1), N, N, (0, 2)]),
    (Told([(0, 4, 3), (1, 2, 2), (0, 4, 0)], [(2, 1, 0), (2, 2, 1)]), [N, (0, 2), (0, 1), N]),
    (Told([(0, 9, 9), (2, 6, 2), (0, 9, 1), (0, 3, 3)], [(1, 1, 0), (3, 1, 1), (1, 1, 0)]), [N, (0, 2), N, N]),
)


def stands_of_all_rows(told, start, how):
    """Of all rows up to a length: each stand that's come to, by its first row (use, length, row)."""
    first = {}
    rows = [(0, 0, (), start)]
    for _ in range(LONGEST + 1):
        longer = []
        for used, length, row, stand in rows:
            if stand not in first or (used, length, row) < first[stand]:
                first[stand] = (used, length, row)
            for operation, then in told.steps(stand):
                longer.append((used + told.use(how, operation), length + 1, row + (operation,), then))
        rows = longer
    return first


class AllRows(CanalTest):
    def check(self, told, places, how, wanted, first):
        """first: the first of all rows up to the length that's a plan, or None."""
        start = [told.begin()] + told.boats(places)
        answer = ask(start + [plan(how, *wanted)])[-1]
        if first is None:
            self.assertTrue(answer == [-3] or answer[1] > LONGEST, answer)
        elif answer[1] <= LONGEST:
            self.assertEqual(answer, [first[0], first[1]] + flat(first[2]))
        else:
            self.assertEqual(how, 1)
            self.assertLess(answer[0], first[0])
        if answer != [-3]:
            self.can_be_done(start, wanted, answer)

    def can_be_done(self, start, wanted, answer):
        self.assertEqual(len(answer), 2 + 3 * answer[1])
        given = ask(start + [run_numbers(answer[2:])] + [where(number) for number in range(4)])[len(start):]
        self.assertEqual(given[0], [answer[1]])
        for number, place in zip(wanted, given[1:]):
            if number > 0:
                self.assertEqual(place, [0, number - 1])

    def test_no_plan_is_before_it(self):
        plans = 0
        for told, places in SMALL:
            for how in (0, 1):
                first = stands_of_all_rows(told, told.start(places), how)
                pounds = range(len(told.pounds) + 1)
                for wanted in itertools.product(*[pounds if place else (0,) for place in places]):
                    rows = [first[stand] for stand in first if told.is_wanted(stand, wanted)]
                    self.check(told, places, how, wanted, min(rows, default=None))
                    plans += len(rows) > 0
        self.assertGreater(plans, 100)


def some_told(numbers):
    """A canal of 2 to 4 pounds with rather more water than its locks need."""
    how_many = 2 + numbers.below(3)
    pounds = []
    for _ in range(how_many):
        most = 3 + numbers.below(10)
        pounds.append((numbers.below(3), most, 2 + numbers.below(most - 1)))
    locks = [(1 + numbers.below(4), 1 + numbers.below(2), numbers.below(2)) for _ in range(how_many - 1)]
    return Told(pounds, locks)


class ToldAnew(CanalTest):
    """Longer plans, and how many stands there are, against a search of its own."""

    def test_some_canals(self):
        plans = 0
        for seed in range(150):
            numbers = Numbers(seed)
            told = some_told(numbers)
            how_many = len(told.pounds)
            places = [(0, numbers.below(how_many)) if numbers.below(2) else None for _ in range(4)]
            calls = [told.begin()] + told.boats(places)
            stand = told.start(places)
            for _ in range(numbers.below(6)):
                steps = told.steps(stand)
                if steps:
                    operation, stand = steps[numbers.below(len(steps))]
                    calls.append(do(*operation))
            for how in (0, 1):
                wanted = [numbers.below(how_many + 1) if place else 0 for place in places]
                answer = ask(calls + [plan(how, *wanted)])[-1]
                self.assertEqual(answer, told.first_plan(stand, how, wanted)[0], calls)
                plans += answer[0] >= 0 and answer[1] > LONGEST
        self.assertGreater(plans, 40)

    def test_around_four_thousand_stands(self):
        for pounds, locks, places, how, wanted, count in (
            ([(0, 0, 0), (0, 1000, 999), (0, 1000, 0)], [(1, 1, 1), (1, 1, 0)], [N] * 4, 0, [1, 0, 0, 0], 4000),
            ([(0, 0, 0), (0, 1000, 999), (0, 1000, 0)], [(1, 1, 1), (1, 1, 0)], [N] * 4, 1, [1, 0, 0, 0], 4000),
            ([(0, 1, 1), (0, 1000, 666), (0, 1000, 0)], [(1, 1, 0), (1, 1, 0)], [N] * 4, 0, [1, 0, 0, 0], 4001),
            ([(0, 1, 1), (0, 1000, 666), (0, 1000, 0)], [(1, 1, 0), (1, 1, 0)], [N] * 4, 1, [1, 0, 0, 0], 4001),
            ([(0, 4, 3), (0, 20, 19), (0, 1000, 367), (0, 6, 3)], [(3, 2, 0), (2, 1, 1), (1, 2, 0)],
             [(0, 0), (0, 2), (0, 0), (0, 3)], 0, [0, 0, 0, 1], 4000),
            ([(0, 20, 15), (0, 1000, 850), (0, 50, 3), (0, 6, 6)], [(1, 2, 1), (31, 1, 1), (4, 2, 1)],
             [N, (0, 2), (0, 3), (0, 1)], 0, [0, 1, 0, 3], 4001),
            ([(0, 20, 17), (0, 50, 31), (0, 1000, 349)], [(1, 2, 0), (3, 1, 1)],
             [(0, 0), (0, 1), (0, 2), (0, 2)], 1, [0, 0, 1, 2], 4000),
            ([(0, 50, 11), (0, 20, 8), (0, 6, 6), (0, 50, 39)], [(3, 1, 0), (1, 1, 0), (6, 1, 0)],
             [N, (0, 0), (0, 0), (0, 0)], 1, [0, 2, 4, 0], 4000),
            ([(0, 20, 12), (0, 6, 2), (0, 20, 14), (0, 1000, 384)], [(9, 2, 1), (1, 2, 0), (8, 2, 0)],
             [N, N, (0, 2), (0, 3)], 1, [0, 0, 3, 1], 4001),
        ):
            told = Told(pounds, locks)
            answer, counted = told.first_plan(told.start(places), how, wanted, most=4001)
            self.assertEqual(counted, count)
            given = ask([told.begin()] + told.boats(places) + [plan(how, *wanted)])[-1]
            self.assertEqual(given, answer if count == 4000 else [-8])


if __name__ == "__main__":
    unittest.main()
