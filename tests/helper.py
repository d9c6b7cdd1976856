"""Writing calls and reading their answers, and the document's canal told anew, for the tests."""

import heapq
import unittest

from canallocks.canal import answers

HUGE = 4294967295
BEGIN, BOAT, LIFT, DO, FEED, POUND, LOCK, WHERE, SUM, MOVES, PLAN, RUN = range(12)
FILL, EMPTY, ENTER, LEAVE = range(4)


def begin(pounds, locks):
    return [BEGIN, len(pounds)] + list(pounds) + [len(locks)] + list(locks)


def boat(number, pound):
    return [BOAT, number, pound]


def lift(number):
    return [LIFT, number]


def do(kind, a, b=0):
    return [DO, kind, a, b]


def fill(lock):
    return do(FILL, lock)


def empty(lock):
    return do(EMPTY, lock)


def enter(number, lock):
    return do(ENTER, number, lock)


def leave(number):
    return do(LEAVE, number)


def feed(water):
    return [FEED, water]


def pound(number):
    return [POUND, number]


def pounds(how_many):
    return [pound(number) for number in range(how_many)]


def lock(number):
    return [LOCK, number]


def where(number):
    return [WHERE, number]


def total():
    return [SUM]


def moves():
    return [MOVES]


def plan(how, *wanted):
    """What's wanted of the boats that aren't named is 0."""
    return [PLAN, how] + list(wanted) + [0] * (4 - len(wanted))


def run(*operations):
    return run_numbers(flat(operations))


def run_numbers(numbers):
    return [RUN, len(numbers)] + list(numbers)


def flat(rows):
    return [number for row in rows for number in row]


def threes(numbers):
    return [tuple(numbers[at:at + 3]) for at in range(0, len(numbers), 3)]


def everything():
    """All calls that only ask, but plan: with numbers that are there and one more."""
    calls = [pound(number) for number in range(7)] + [lock(number) for number in range(6)]
    return calls + [where(number) for number in range(5)] + [total(), moves()]


def weight(calls):
    """What the interface allows a case at most 1,000,000 of."""
    lengths_told = {BEGIN: 2, RUN: 1}
    numbers = sum(len(call) - lengths_told.get(call[0], 0) for call in calls)
    return 13000 * [call[0] for call in calls].count(PLAN) + len(calls) * (numbers + 200)


def ask(calls):
    """Each call's answer as a list; the counts before them must fit exactly."""
    assert len(calls) <= 400 and sum(len(call) for call in calls) <= 30000 and weight(calls) <= 1000000
    given = answers([number for call in calls for number in call])
    told = []
    at = 0
    while at < len(given):
        told.append(given[at + 1:at + 1 + given[at]])
        assert len(told[-1]) == given[at] > 0, given
        at += 1 + given[at]
    assert len(told) == len(calls), given
    return told


class Numbers:
    """The same row of numbers each time, each below what is asked."""

    def __init__(self, seed):
        self.seed = seed

    def below(self, limit):
        self.seed = (self.seed * 6364136223846793005 + 1442695040888963407) % 2 ** 64
        return (self.seed >> 33) % limit


def some_canal(numbers):
    """A canal of 2 to 6 pounds: its pounds in threes, its locks in threes."""
    pound_threes = []
    lock_threes = []
    for _ in range(2 + numbers.below(5)):
        least = numbers.below(5)
        most = least + numbers.below(25)
        pound_threes.append((least, most, least + numbers.below(most - least + 1)))
        lock_threes.append((1 + numbers.below(9), 1 + numbers.below(4), numbers.below(2)))
    return pound_threes, lock_threes[1:]


class CanalTest(unittest.TestCase):
    """Tests that play calls on a new canal and compare the answers."""

    def plays(self, *pairs):
        """Each pair is a call and its answer (a number alone stands for one)."""
        calls = [call for call, _ in pairs]
        wanted = [[told] if isinstance(told, int) else told for _, told in pairs]
        self.assertEqual(ask(calls), wanted)


class Told:
    """A canal's rules as the document tells them, over stands that never change.

    A stand is the pounds' water, which locks are full, and where the boats are:
    (0, a pound), (1, a lock), or None.
    """

    def __init__(self, pound_threes, lock_threes):
        self.pounds = pound_threes
        self.locks = lock_threes
        locks = range(len(lock_threes))
        self.operations = [(FILL, at, 0) for at in locks] + [(EMPTY, at, 0) for at in locks]
        self.operations += [(ENTER, number, at) for number in range(4) for at in locks]
        self.operations += [(LEAVE, number, 0) for number in range(4)]

    def start(self, places):
        waters = tuple(three[2] for three in self.pounds)
        return (waters, tuple(three[2] for three in self.locks), tuple(places))

    def begin(self):
        return begin(flat(self.pounds), flat(self.locks))

    def boats(self, places):
        """The calls that bring boats into their pounds."""
        return [boat(number, place[1]) for number, place in enumerate(places) if place]

    def behind(self, stand, operation):
        """The stand behind an operation, or None if it can't be done."""
        waters, fulls, places = list(stand[0]), list(stand[1]), list(stand[2])
        kind, a, b = operation
        if kind == FILL:
            waters[a] -= self.locks[a][0]
            if fulls[a] or waters[a] < self.pounds[a][0]:
                return None
            fulls[a] = 1
        elif kind == EMPTY:
            if not fulls[a]:
                return None
            fulls[a] = 0
            waters[a + 1] += self.locks[a][0]
            for at in range(a + 1, len(waters)):
                over = max(0, waters[at] - self.pounds[at][1])
                waters[at] -= over
                if at + 1 < len(waters):
                    waters[at + 1] += over
        elif kind == ENTER:
            if places[a] != (0, b if fulls[b] else b + 1) or places.count((1, b)) == self.locks[b][1]:
                return None
            places[a] = (1, b)
        else:
            if places[a] is None or places[a][0] == 0:
                return None
            at = places[a][1]
            places[a] = (0, at if fulls[at] else at + 1)
        return (tuple(waters), tuple(fulls), tuple(places))

    def steps(self, stand):
        """Each operation that can be done, and the stand behind it."""
        pairs = [(operation, self.behind(stand, operation)) for operation in self.operations]
        return [(operation, then) for operation, then in pairs if then is not None]

    def use(self, how, operation):
        return self.locks[operation[1]][0] if how == 1 and operation[0] == FILL else 0

    def is_wanted(self, stand, wanted):
        return all(number == 0 or place == (0, number - 1) for number, place in zip(wanted, stand[2]))

    def first_plan(self, start, how, wanted, most=4000):
        """What plan answers; and how many stands rows before every plan come to."""
        reached = set()
        waiting = [(0, 0, (), start)]
        while waiting:
            used, length, row, stand = heapq.heappop(waiting)
            if stand in reached:
                continue
            if self.is_wanted(stand, wanted):
                return [used, length] + flat(row), len(reached)
            reached.add(stand)
            if len(reached) > most:
                return [-8], len(reached)
            for operation, then in self.steps(stand):
                if then not in reached:
                    entry = (used + self.use(how, operation), length + 1, row + (operation,), then)
                    heapq.heappush(waiting, entry)
        return [-3], len(reached)
