"""The promises, over many rows of calls on many canals."""

import unittest

from helper import (
    BEGIN, BOAT, DO, EMPTY, ENTER, FEED, FILL, LEAVE, LIFT, POUND, ask, begin, boat, do, feed, lift, pounds,
)


class Numbers:
    """The same row of numbers each time, each below what is asked."""

    def __init__(self, seed):
        self.seed = seed

    def below(self, limit):
        self.seed = (self.seed * 6364136223846793005 + 1442695040888963407) % 2 ** 64
        return (self.seed >> 33) % limit


def some_canal(numbers):
    """A canal of 2 to 6 pounds: its pounds in threes, its locks in threes."""
    pound_numbers = []
    lock_numbers = []
    for _ in range(2 + numbers.below(5)):
        least = numbers.below(5)
        most = least + numbers.below(25)
        pound_numbers.append((least, most, least + numbers.below(most - least + 1)))
        lock_numbers.append((1 + numbers.below(9), 1 + numbers.below(4), numbers.below(2)))
    return pound_numbers, lock_numbers[1:]


def flat(threes):
    return [number for three in threes for number in three]


def some_call(numbers):
    """A call that is often, but not always, refused."""
    choice = numbers.below(20)
    if choice < 3:
        return boat(numbers.below(5), numbers.below(6))
    if choice == 3:
        return lift(numbers.below(5))
    if choice == 4:
        return feed(10001 if numbers.below(8) == 0 else numbers.below(15))
    return do(numbers.below(5), numbers.below(5), numbers.below(5))


class Model:
    """What the answers so far say of the canal, told by them alone."""

    def __init__(self, pound_numbers, lock_numbers):
        self.pounds = pound_numbers
        self.locks = lock_numbers
        self.full = [three[2] for three in lock_numbers]
        self.there = sum(three[2] for three in pound_numbers) + self.in_locks()
        self.in_lock = {}
        self.boats = set()
        self.come = 0
        self.left = 0

    def in_locks(self):
        return sum(three[0] for three, full in zip(self.locks, self.full) if full)

    def hear(self, call, told):
        """Take in one call that was not refused, and its answer."""
        if call[0] == BOAT:
            self.boats.add(call[1])
        elif call[0] == LIFT:
            self.boats.remove(call[1])
        elif call[0] == FEED:
            self.come += call[1]
            self.left += told
        elif call[1] == FILL:
            self.full[call[2]] = 1
        elif call[1] == EMPTY:
            self.full[call[2]] = 0
            self.left += told
        elif call[1] == ENTER:
            self.in_lock[call[2]] = call[3]
        elif call[1] == LEAVE:
            del self.in_lock[call[2]]


class Promises(unittest.TestCase):
    def check(self, model, told):
        """Compare what the call pound told of each pound with the model."""
        waters = [answer[0] for answer in told]
        self.assertEqual(sum(waters) + model.in_locks() + model.left, model.there + model.come)
        for water, three in zip(waters, model.pounds):
            self.assertTrue(three[0] <= water <= three[1])
        for number, three in enumerate(model.locks):
            self.assertLessEqual(list(model.in_lock.values()).count(number), three[1])
        self.assertEqual(sum(answer[1] for answer in told), len(model.boats) - len(model.in_lock))

    def test_water_and_boats_are_accounted_for(self):
        for seed in range(120):
            numbers = Numbers(seed)
            pound_numbers, lock_numbers = some_canal(numbers)
            asking = pounds(len(pound_numbers))
            calls = [begin(flat(pound_numbers), flat(lock_numbers))] + asking
            for _ in range(150):
                calls += [some_call(numbers)] + asking
            told = ask(calls)
            model = Model(pound_numbers, lock_numbers)
            before = told[1:1 + len(asking)]
            self.check(model, before)
            for at in range(1 + len(asking), len(calls), 1 + len(asking)):
                after = told[at + 1:at + 1 + len(asking)]
                if told[at][0] < 0:
                    self.assertEqual(after, before)
                else:
                    model.hear(calls[at], told[at][0])
                self.check(model, after)
                before = after

    def test_what_is_refused_and_what_only_asks_changes_nothing(self):
        done = 0
        for seed in range(120):
            numbers = Numbers(1000 + seed)
            pound_numbers, lock_numbers = some_canal(numbers)
            calls = [begin(flat(pound_numbers), flat(lock_numbers))]
            for _ in range(300):
                calls.append(some_call(numbers))
                if numbers.below(4) == 0:
                    calls.append([POUND, numbers.below(7)])
                if numbers.below(30) == 0:
                    calls.append(begin(flat(pound_numbers), flat(lock_numbers)[1:]))
            pairs = list(zip(calls, ask(calls)))
            kept = [(call, told) for call, told in pairs if told[0] >= 0 and call[0] != POUND]
            self.assertEqual(ask([call for call, _ in kept]), [told for _, told in kept])
            done += len([call for call, _ in kept if call[0] in (DO, BEGIN)])
        self.assertGreater(done, 2000)


if __name__ == "__main__":
    unittest.main()
