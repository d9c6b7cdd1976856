"""The call moves."""

import unittest

from helper import CanalTest, ask, begin, boat, do, empty, enter, feed, fill, flat, leave, lift, moves, threes


def told(*operations):
    """What moves answers: how many, then three numbers for each."""
    return [len(operations)] + flat(operations)


class Moves(CanalTest):
    CANAL = begin([0, 10, 5, 0, 10, 6, 0, 10, 7], [2, 4, 1, 3, 4, 0])

    def test_water_alone(self):
        self.plays(
            (self.CANAL, 0),
            (moves(), [2, 0, 1, 0, 1, 0, 0]),
            (fill(1), 0),
            (moves(), [2, 1, 0, 0, 1, 1, 0]),
            (empty(0), 0),
            (moves(), [2, 0, 0, 0, 1, 1, 0]),
        )

    def test_boats(self):
        self.plays(
            (self.CANAL, 0),
            (boat(2, 0), 0),
            (moves(), told((0, 1, 0), (1, 0, 0), (2, 2, 0))),
            (boat(1, 2), 0),
            (moves(), told((0, 1, 0), (1, 0, 0), (2, 1, 1), (2, 2, 0))),
            (enter(2, 0), 0),
            (moves(), told((0, 1, 0), (1, 0, 0), (2, 1, 1), (3, 2, 0))),
            (enter(1, 1), 0),
            (moves(), told((0, 1, 0), (1, 0, 0), (3, 1, 0), (3, 2, 0))),
            (empty(0), 0),
            (leave(2), 1),
            (moves(), told((0, 0, 0), (0, 1, 0), (2, 2, 0), (3, 1, 0))),
            (lift(2), 0),
            (moves(), told((0, 0, 0), (0, 1, 0), (3, 1, 0))),
        )

    def test_a_boat_between_two_locks(self):
        self.plays(
            (begin([0, 9, 9] * 3, [1, 1, 0, 1, 1, 1]), 0),
            (boat(0, 1), 0),
            (boat(3, 1), 0),
            (moves(), told((0, 0, 0), (1, 1, 0), (2, 0, 0), (2, 0, 1), (2, 3, 0), (2, 3, 1))),
            (enter(3, 0), 0),
            (moves(), told((0, 0, 0), (1, 1, 0), (2, 0, 1), (3, 3, 0))),
            (fill(0), 0),
            (moves(), told((1, 0, 0), (1, 1, 0), (2, 0, 1), (3, 3, 0))),
        )

    def test_filling_down_to_the_least(self):
        self.plays(
            (begin([4, 9, 6, 0, 9, 0], [3, 1, 0]), 0),
            (moves(), [0]),
            (feed(1), 0),
            (moves(), [1, 0, 0, 0]),
            (fill(0), 0),
            (moves(), [1, 1, 0, 0]),
        )

    def test_nothing_that_can_be_done(self):
        self.plays((begin([0, 0, 0] * 2, [1, 1, 0]), 0), (moves(), [0]), (boat(0, 0), 0), (moves(), [0]))

    def test_on_a_new_object(self):
        self.plays((moves(), [0]), (begin([], []), -1), (moves(), [0]))

    def test_all_locks_and_boats_of_the_largest_canal(self):
        canal = begin([0, 1000, 500] * 6, [1, 4, 0, 1, 4, 1] * 2 + [1, 4, 0])
        calls = [canal] + [boat(number, 1 + 2 * (number // 2)) for number in range(4)]
        self.assertEqual(
            ask(calls + [moves()])[-1],
            [13, 0, 0, 0, 0, 2, 0, 0, 4, 0, 1, 1, 0, 1, 3, 0]
            + [2, 0, 0, 2, 0, 1, 2, 1, 0, 2, 1, 1, 2, 2, 2, 2, 2, 3, 2, 3, 2, 2, 3, 3],
        )

    def test_what_is_told_can_be_done_and_all_else_is_refused(self):
        before = [
            self.CANAL, boat(0, 0), boat(1, 1), boat(2, 1), enter(0, 0), empty(0), enter(1, 0), fill(1), enter(2, 1),
        ]
        can = threes(ask(before + [moves()])[-1][1:])
        self.assertEqual(can, sorted(can))
        for kind in range(5):
            for a in range(5):
                for b in range(4 if kind == 2 else 1):
                    done = ask(before + [do(kind, a, b)])[-1][0] >= 0
                    self.assertEqual(done, (kind, a, b) in can, (kind, a, b))


if __name__ == "__main__":
    unittest.main()
