"""The calls boat, lift and pound."""

import unittest

from helper import HUGE, CanalTest, begin, boat, empty, enter, feed, fill, leave, lift, pound

CANAL = begin([0, 10, 5, 0, 10, 6, 0, 10, 7], [2, 4, 1, 2, 4, 0])


class Boat(CanalTest):
    def test_boats_are_put_in(self):
        self.plays(
            (CANAL, 0),
            (boat(0, 0), 0),
            (boat(3, 0), 0),
            (boat(1, 2), 0),
            (pound(0), [5, 2]),
            (pound(1), [6, 0]),
            (pound(2), [7, 1]),
        )

    def test_a_pound_has_room_for_all(self):
        self.plays(
            (CANAL, 0), (boat(0, 1), 0), (boat(1, 1), 0), (boat(2, 1), 0), (boat(3, 1), 0), (pound(1), [6, 4])
        )

    def test_boats_three_and_four(self):
        self.plays((CANAL, 0), (boat(3, 0), 0), (boat(4, 0), -1), (boat(HUGE, 0), -1), (pound(0), [5, 1]))

    def test_pounds_that_are_not_there(self):
        self.plays((CANAL, 0), (boat(0, 3), -4), (boat(0, HUGE), -4), (boat(0, 2), 0))

    def test_a_boat_that_is_there(self):
        self.plays(
            (CANAL, 0),
            (boat(0, 0), 0),
            (boat(0, 0), -5),
            (boat(0, 1), -5),
            (enter(0, 0), 0),
            (boat(0, 0), -5),
            (boat(0, 2), -5),
            (pound(0), [5, 0]),
            (leave(0), 0),
            (pound(0), [5, 1]),
            (pound(1), [6, 0]),
        )

    def test_the_first_refusal(self):
        self.plays(
            (boat(4, 0), -1),
            (boat(0, 0), -4),
            (CANAL, 0),
            (boat(4, 3), -1),
            (boat(0, 0), 0),
            (boat(0, 3), -4),
            (pound(0), [5, 1]),
        )

    def test_on_a_new_object(self):
        self.plays((boat(0, 0), -4), (boat(3, HUGE), -4), (boat(4, 0), -1), (boat(HUGE, HUGE), -1))


class Lift(CanalTest):
    def test_a_boat_is_lifted_and_put_in_again(self):
        self.plays(
            (CANAL, 0),
            (boat(0, 0), 0),
            (boat(1, 0), 0),
            (lift(0), 0),
            (pound(0), [5, 1]),
            (lift(0), -4),
            (boat(0, 2), 0),
            (pound(2), [7, 1]),
            (lift(1), 0),
            (pound(0), [5, 0]),
        )

    def test_a_boat_that_is_not_there(self):
        self.plays((CANAL, 0), (boat(0, 0), 0), (lift(1), -4), (lift(3), -4), (lift(4), -4), (lift(HUGE), -4))

    def test_a_boat_in_a_lock(self):
        self.plays(
            (CANAL, 0),
            (boat(0, 0), 0),
            (enter(0, 0), 0),
            (lift(0), -3),
            (boat(0, 0), -5),
            (empty(0), 0),
            (leave(0), 1),
            (lift(0), 0),
            (pound(1), [8, 0]),
        )

    def test_on_a_new_object(self):
        self.plays((lift(0), -4), (lift(3), -4), (lift(4), -4), (lift(HUGE), -4))


class Pound(CanalTest):
    def test_water_and_boats(self):
        self.plays(
            (CANAL, 0),
            (pound(0), [5, 0]),
            (feed(3), 0),
            (pound(0), [8, 0]),
            (boat(2, 1), 0),
            (fill(1), 0),
            (pound(1), [4, 1]),
            (enter(2, 1), 0),
            (pound(1), [4, 0]),
            (pound(2), [7, 0]),
        )

    def test_pounds_that_are_not_there(self):
        self.plays((CANAL, 0), (pound(2), [7, 0]), (pound(3), -4), (pound(HUGE), -4))

    def test_on_a_new_object(self):
        self.plays((pound(0), -4), (pound(HUGE), -4))


if __name__ == "__main__":
    unittest.main()
