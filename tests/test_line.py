"""Whole lines with all twelve calls, against answers that are worked out another way."""

import random
import unittest

from actioncaches.stores import answers
from another import another_way
from lines import (ABSENT, FAR, HUGE, INPUT, LIMIT, NEAR, STORE, TOOL, clean, counts, cut, do, failing, forget, has,
                   line, listing, room, run, send, share, there, wrong_looks)

INPUTS = ([], [0], [1], [255], [0, 7], [7, 0], [1, 2, 3], [0] * 5, [9] * 20, [255, 0] * 32)
WRONG = (-HUGE, -1, 2, 6, 65, 256, 1025, HUGE)
WRONG_INPUTS = ([-1], [256], [1] * 65, [1] * 100, [HUGE], [0, -HUGE])


class Source:
    """Numbers at random, some of them wrong; the fewer the actions, the more entries are met again."""

    def __init__(self, seed, wrong):
        self.random = random.Random(seed)
        self.wrong = wrong
        self.tools = self.random.sample(range(6), 3)
        self.inputs = self.random.sample(INPUTS, 4)

    def one(self, right, wrong):
        return self.random.choice(wrong if self.random.randrange(100) < self.wrong else right)

    def truth(self):
        return self.one((0, 1), WRONG)

    def mostly(self, b):
        return self.one((b, b, 1 - b), WRONG)

    def store(self):
        return self.one((NEAR, FAR), WRONG)

    def action(self):
        return self.one(self.tools, (-HUGE, -1, 6, HUGE)), self.one(self.inputs, WRONG_INPUTS)

    def room(self):
        return self.one((0, 3, 7, 20, 50, 100, 150, 256, 1024), (-HUGE, -1, 1025, HUGE))

    def cut(self):
        return self.one((0, 0, 1, 2, 3, 5), (-HUGE, -1, 200, HUGE))

    def call(self):
        kind = self.random.choices(range(12), (2, 2, 2, 2, 12, 6, 2, 2, 4, 4, 2, 2))[0]
        return self.call_of(kind)

    def call_of(self, kind):
        makers = (lambda: room(self.store(), self.room()), lambda: there(self.mostly(1)),
                  lambda: send(self.truth()), lambda: failing(self.truth()), lambda: do(*self.action()),
                  self.call_of_cut, lambda: forget(self.store(), *self.action()), lambda: clean(self.store()),
                  share, lambda: has(self.store(), *self.action()), lambda: listing(self.store()), counts)
        return makers[kind]()

    def call_of_cut(self):
        tool, given = self.action()
        return cut(self.store(), tool, self.cut(), given)


def some_line(seed, wrong=5, length=400):
    source = Source(seed, wrong)
    return [source.call() for place in range(length)]


def longest_line():
    """As many calls and as many numbers as a line may have; the last call fills it up."""
    source = random.Random(5)
    small = (room(NEAR, 300), room(FAR, 400), there(1), there(0), there(1), send(0), send(1), failing(1), failing(0),
             clean(NEAR), clean(FAR), share(), listing(NEAR), listing(FAR), counts())
    calls = []
    for number in range(399):
        tool, store = source.choice((0, 3, 5)), source.randrange(2)
        given = [source.randrange(4)] * (62 if number % 4 else 61)
        large = (do(tool, given), do(tool, given), do(tool, given), cut(store, tool, source.randrange(3), given),
                 forget(store, tool, given), has(store, tool, given))
        calls.append(large[number % 6] if number % 5 in (0, 2, 4) else small[number // 2 % 15])
    return calls + [do(0, [1] * (16000 - 3 - len(line(calls))))]


class AnotherWay(unittest.TestCase):
    def test_lines_of_400_calls(self):
        seen = set()
        for seed in range(60):
            calls = some_line(seed)
            self.assertEqual({call[0] for call in calls}, set(range(12)))
            self.assertLessEqual(len(line(calls)), 16000)
            found = run(*calls)
            self.check(calls, found, another_way(calls))
            seen |= {(call[0], answer[0]) for call, answer in zip(calls, found)}
        self.check_seen(seen)

    def check(self, calls, found, wanted):
        for place, call in enumerate(calls):
            self.assertEqual(found[place], wanted[place], (place, call))

    def check_seen(self, seen):
        """Each call has been answered in each of its ways."""
        ways = {0: (0, 1, STORE, LIMIT), 1: (0, LIMIT), 2: (0, LIMIT), 3: (0, LIMIT), 4: (0, 1, 2, TOOL, INPUT),
                5: (0, STORE, TOOL, INPUT, ABSENT, LIMIT), 6: (0, STORE, TOOL, INPUT, ABSENT),
                7: (0, 1, 2, STORE), 8: (0, 1, 2, LIMIT), 9: (0, 1, 2, STORE, TOOL, INPUT), 10: (0, STORE), 11: (0,)}
        self.assertEqual({(call, way) for call in ways for way in ways[call]} - seen, set())

    def test_a_line_of_400_calls_and_16000_numbers(self):
        calls = longest_line()
        self.assertEqual((len(calls), len(line(calls))), (400, 16000))
        self.assertEqual({call[0] for call in calls}, set(range(12)))
        self.check(calls, run(*calls), another_way(calls))

    def test_each_pair_of_calls_in_each_order(self):
        begun = [failing(1), do(5, [0, 7]), do(0, [1]), do(1, [2, 3]), cut(FAR, 0, 0, [1]), cut(NEAR, 1, 1, [2, 3])]
        tried = [room(NEAR, 5), room(FAR, 4), there(0), there(1), send(0), send(1), failing(0), do(0, [1]),
                 do(1, [2, 3]), do(4, [5]), cut(NEAR, 5, 0, [0, 7]), forget(NEAR, 0, [1]), forget(FAR, 1, [2, 3]),
                 clean(NEAR), clean(FAR), share(), has(FAR, 0, [1]), listing(NEAR), listing(FAR), counts()]
        ended = [listing(NEAR), listing(FAR), counts(), do(1, [2, 3]), share(), listing(FAR), counts()]
        for first in tried:
            for second in tried:
                calls = begun + [first, second] + ended
                self.check(calls, run(*calls), another_way(calls))


class RefusedCalls(unittest.TestCase):
    def always_refused(self):
        found = [(room(store, n), STORE) for store in (-HUGE, -1, 2, HUGE) for n in (0, -1, 1025)]
        found += [(room(store, n), LIMIT) for store in (NEAR, FAR) for n in (-HUGE, -1, 1025, HUGE)]
        found += [(call(b), LIMIT) for call in (there, send, failing) for b in (-HUGE, -1, 2, HUGE)]
        found += [(do(tool, given), TOOL) for tool in (-HUGE, -1, 6, HUGE) for given in ([1], [256], [1] * 65)]
        found += [(do(tool, given), INPUT) for tool in (0, 5) for given in WRONG_INPUTS]
        found += [(call(store), STORE) for call in (clean, listing) for store in (-HUGE, -1, 2, HUGE)]
        found += [(forget(store, 4, [77]), ABSENT) for store in (NEAR, FAR)]
        found += wrong_looks(forget) + wrong_looks(has)
        for n in (-HUGE, -1, 0, HUGE):
            found += [(cut(store, 4, n, [77]), ABSENT) for store in (NEAR, FAR)]
            found += wrong_looks(lambda store, tool, given: cut(store, tool, n, given))
        return found

    def test_refused_calls_between_leave_the_others_as_they_were(self):
        refused = self.always_refused()
        place = 0
        for seed in range(100, 110):
            calls = some_line(seed, wrong=0, length=200)
            between = [refused[(place + step) % len(refused)] for step in range(200)]
            place += 200
            mixed = [call for pair in zip([call for call, answer in between], calls) for call in pair]
            found = run(*mixed)
            self.assertEqual(found[0::2], [[answer] for call, answer in between])
            self.assertEqual(found[1::2], run(*calls))
        self.assertGreaterEqual(place, len(refused))


class Handed(unittest.TestCase):
    def test_what_is_handed_in_stays_and_a_second_calling_answers_as_the_first(self):
        lines = [line(some_line(seed)) for seed in range(200, 206)]
        before = [list(handed) for handed in lines]
        first = [answers(handed) for handed in lines]
        self.assertEqual(lines, before)
        self.assertEqual([answers(handed) for handed in reversed(lines)], list(reversed(first)))
        self.assertEqual(lines, before)

    def test_whole_numbers_alone_are_given_back(self):
        for seed in range(300, 303):
            told = answers(line(some_line(seed)))
            self.assertIs(type(told), list)
            self.assertEqual({type(number) for number in told}, {int})


if __name__ == "__main__":
    unittest.main()
