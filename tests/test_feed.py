"""The call feed, and how water is poured."""

import unittest

from helper import HUGE, CanalTest, begin, boat, feed, pound

CANAL = begin([0, 10, 5, 3, 10, 6, 0, 12, 7], [2, 4, 1, 2, 4, 0])


class Feed(CanalTest):
    def test_water_stays_in_the_first_pound(self):
        self.plays((CANAL, 0), (feed(4), 0), (pound(0), [9, 0]), (pound(1), [6, 0]), (pound(2), [7, 0]))

    def test_just_to_the_most(self):
        self.plays((CANAL, 0), (feed(5), 0), (pound(0), [10, 0]), (pound(1), [6, 0]))

    def test_over_one_pound(self):
        self.plays((CANAL, 0), (feed(6), 0), (pound(0), [10, 0]), (pound(1), [7, 0]), (pound(2), [7, 0]))

    def test_over_several_pounds(self):
        self.plays((CANAL, 0), (feed(14), 0), (pound(0), [10, 0]), (pound(1), [10, 0]), (pound(2), [12, 0]))

    def test_out_of_the_canal(self):
        self.plays(
            (CANAL, 0),
            (feed(15), 1),
            (pound(0), [10, 0]),
            (pound(1), [10, 0]),
            (pound(2), [12, 0]),
            (feed(1), 1),
            (feed(0), 0),
            (feed(10), 10),
        )

    def test_past_a_pound_that_is_full(self):
        self.plays(
            (begin([0, 9, 0, 0, 4, 4, 0, 9, 0], [1, 1, 0, 1, 1, 0]), 0),
            (feed(11), 0),
            (pound(0), [9, 0]),
            (pound(1), [4, 0]),
            (pound(2), [2, 0]),
        )

    def test_nothing(self):
        self.plays((CANAL, 0), (boat(0, 0), 0), (feed(0), 0), (pound(0), [5, 1]))

    def test_at_most_ten_thousand(self):
        self.plays(
            (CANAL, 0),
            (feed(10001), -1),
            (feed(HUGE), -1),
            (pound(0), [5, 0]),
            (pound(1), [6, 0]),
            (pound(2), [7, 0]),
            (feed(10000), 9986),
            (pound(0), [10, 0]),
            (pound(2), [12, 0]),
        )

    def test_on_a_new_object(self):
        self.plays((feed(0), -4), (feed(1), -4), (feed(10000), -4), (feed(10001), -1), (feed(HUGE), -1))


if __name__ == "__main__":
    unittest.main()
