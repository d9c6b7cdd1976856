"""Writing calls and reading their answers, for the tests."""

import unittest

from canallocks.canal import answers

HUGE = 4294967295
BEGIN, BOAT, LIFT, DO, FEED, POUND = range(6)
FILL, EMPTY, ENTER, LEAVE = range(4)


def begin(pounds, locks):
    return [BEGIN, len(pounds)] + list(pounds) + [len(locks)] + list(locks)


def boat(number, pound):
    return [BOAT, number, pound]


def lift(number):
    return [LIFT, number]


def do(kind, a, b=0):
    return [DO, kind, a, b]


def fill(lock):
    return do(FILL, lock)


def empty(lock):
    return do(EMPTY, lock)


def enter(number, lock):
    return do(ENTER, number, lock)


def leave(number):
    return do(LEAVE, number)


def feed(water):
    return [FEED, water]


def pound(number):
    return [POUND, number]


def pounds(how_many):
    return [pound(number) for number in range(how_many)]


def ask(calls):
    """Each call's answer as a list; the counts before them must fit exactly."""
    given = answers([number for call in calls for number in call])
    told = []
    at = 0
    while at < len(given):
        told.append(given[at + 1:at + 1 + given[at]])
        assert len(told[-1]) == given[at] > 0, given
        at += 1 + given[at]
    assert len(told) == len(calls), given
    return told


class CanalTest(unittest.TestCase):
    """Tests that play calls on a new canal and compare the answers."""

    def plays(self, *pairs):
        """Each pair is a call and its answer (a number alone stands for one)."""
        calls = [call for call, _ in pairs]
        wanted = [[told] if isinstance(told, int) else told for _, told in pairs]
        self.assertEqual(ask(calls), wanted)
