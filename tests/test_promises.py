"""The promises, over many long rows of calls on many canals."""

import unittest

from helper import (
    BEGIN, DO, EMPTY, FEED, LOCK, MOVES, PLAN, POUND, RUN, SUM, WHERE, Numbers, ask, begin, boat, do, everything, feed,
    flat, lift, lock, moves, plan, pound, run_numbers, some_canal, total, where,
)

ASKING = (POUND, LOCK, WHERE, SUM, MOVES, PLAN)


def some_run(numbers):
    """A row of operations, now and then not in threes or too long."""
    length = 3 * numbers.below(12)
    if numbers.below(8) == 0:
        length += 1 + numbers.below(400)
    return run_numbers([numbers.below(5) for _ in range(length)])


def some_change(numbers, own_begin):
    """A call that changes something, if it's not refused, as it often is."""
    choice = numbers.below(100)
    if choice < 20:
        return boat(numbers.below(5), numbers.below(6))
    if choice < 25:
        return lift(numbers.below(5))
    if choice < 31:
        return feed(10001 if numbers.below(8) == 0 else numbers.below(15))
    if choice < 42:
        return some_run(numbers)
    if choice < 44:
        return own_begin[:-1] + [2]
    return do(numbers.below(5), numbers.below(5), numbers.below(5))


def some_question(numbers):
    """A call that only asks, but plan."""
    simple = (pound(numbers.below(7)), lock(numbers.below(6)), where(numbers.below(5)), total(), moves())
    return simple[numbers.below(len(simple))]


def some_plan(numbers):
    return plan(numbers.below(3), *[numbers.below(4) for _ in range(4)])


def some_case(seed, length, plans=0):
    """A canal and calls on it that change and that ask, some of them plan."""
    numbers = Numbers(seed)
    canal = some_canal(numbers)
    own_begin = begin(flat(canal[0]), flat(canal[1]))
    calls = [own_begin]
    while len(calls) < length:
        calls.append(some_change(numbers, own_begin))
        if numbers.below(3) == 0:
            calls.append(some_question(numbers))
        if numbers.below(length) < plans:
            calls.append(some_plan(numbers))
    return canal, calls


class Promises(unittest.TestCase):
    def test_water_and_boats_are_accounted_for(self):
        """Promises 1 and 2 behind every call, and promise 4: all there is to ask, before and after."""
        for seed in range(40):
            canal, calls = some_case(seed, 150)
            told = ask(calls)
            before = None
            for at in range(len(calls)):
                given = ask(calls[:at + 1] + everything())
                self.assertEqual(given[:at + 1], told[:at + 1])
                after = given[at + 1:]
                if at > 0 and (told[at][0] < 0 or calls[at][0] in ASKING):
                    self.assertEqual(after, before, calls[:at + 1])
                elif at > 0:
                    self.check_account(calls[at], told[at], before, after)
                self.check(canal, after)
                before = after

    def test_plan_leaves_all_there_is_to_ask_as_it_is(self):
        told = 0
        for seed in range(60):
            calls = some_case(2000 + seed, 60)[1]
            asked = some_plan(Numbers(seed))
            given = ask(calls + everything() + [asked] + everything())[len(calls):]
            self.assertEqual(given[:20], given[21:])
            told += given[20][0] >= 0
        self.assertGreater(told, 3)

    def check(self, canal, asked):
        """What everything() answers fits itself and the canal's bounds."""
        pounds, locks = canal
        of_pounds, of_locks, of_boats = asked[:7], asked[7:13], asked[13:18]
        water, gone, fed = asked[18]
        for three, told in zip(pounds, of_pounds):
            self.assertTrue(three[0] <= told[0] <= three[1])
        for three, told in zip(locks, of_locks):
            self.assertTrue(told[0] in (0, 1) and 0 <= told[1] <= three[1])
        for told in of_pounds[len(pounds):] + of_locks[len(locks):]:
            self.assertEqual(told, [-4])
        for number, told in enumerate(of_pounds[:len(pounds)]):
            self.assertEqual(told[1], of_boats.count([0, number]))
        for number, told in enumerate(of_locks[:len(locks)]):
            self.assertEqual(told[1], of_boats.count([1, number]))
        in_locks = sum(three[0] * told[0] for three, told in zip(locks, of_locks))
        self.assertEqual(water, sum(told[0] for told in of_pounds[:len(pounds)]) + in_locks)
        at_first = sum(three[2] for three in pounds) + sum(three[0] * three[2] for three in locks)
        self.assertEqual(water + gone, at_first + fed)

    def check_account(self, call, told, before, after):
        """Sum goes on by what has just come in and has just been told to leave."""
        gone = after[18][1] - before[18][1]
        fed = after[18][2] - before[18][2]
        self.assertEqual(fed, call[1] if call[0] == FEED else 0)
        if call[0] == FEED or call[:2] == [DO, EMPTY]:
            self.assertEqual(gone, told[0])
        elif call[0] == RUN:
            self.assertGreaterEqual(gone, 0)
        else:
            self.assertEqual(gone, 0)

    def test_what_is_refused_and_what_only_asks_can_be_left_out(self):
        done = 0
        for seed in range(70):
            calls = some_case(1000 + seed, 250, plans=4)[1]
            pairs = list(zip(calls, ask(calls)))
            kept = [(call, told) for call, told in pairs if told[0] >= 0 and call[0] not in ASKING]
            self.assertEqual(ask([call for call, _ in kept]), [told for _, told in kept])
            done += len([call for call, _ in kept if call[0] in (DO, RUN, BEGIN)])
        self.assertGreater(done, 2000)


if __name__ == "__main__":
    unittest.main()
