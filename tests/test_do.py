"""Point 5: where do answers from, what it keeps, and what it refuses."""

import random
import unittest

from another import worked
from lines import (ABSENT, FAR, HUGE, INPUT, LIMIT, NEAR, TOOL, counts, cut, do, failing, last, missing, room, run,
                   send, there)

GIVEN = [1, 2, 3]


class From(unittest.TestCase):
    def test_worked_then_from_near(self):
        found = run(do(1, GIVEN), do(1, GIVEN), do(1, GIVEN), counts())
        self.assertEqual(found, [[0, 0, 3, 2, 1], [1, 0, 3, 2, 1], [1, 0, 3, 2, 1], [0, 1, 2, 0, 1, 0, 0, 7]])

    def test_from_far_and_then_from_near(self):
        found = run(do(1, GIVEN), room(NEAR, 0), room(NEAR, 256), do(1, GIVEN), do(1, GIVEN),
                    missing(FAR, 1, GIVEN), counts())
        self.assertEqual(found[3:], [[2, 0, 3, 2, 1], [1, 0, 3, 2, 1], [LIMIT], [0, 1, 1, 1, 1, 1, 0, 7]])

    def test_from_far_without_room_near(self):
        found = run(do(1, GIVEN), room(NEAR, 6), do(1, GIVEN), do(1, GIVEN), counts())
        self.assertEqual(found[2:], [[2, 0, 3, 2, 1], [2, 0, 3, 2, 1], [0, 1, 0, 2, 1, 1, 0, 0]])

    def test_from_far_drops_near_entries_and_counts_no_sending(self):
        found = run(room(NEAR, 7), do(0, GIVEN), do(1, GIVEN), do(0, GIVEN), counts(), missing(NEAR, 1, GIVEN),
                    missing(FAR, 0, GIVEN), missing(FAR, 1, GIVEN))
        self.assertEqual(found[3:], [[2, 0, 1, 2, 3], [0, 2, 0, 1, 2, 2, 0, 7], [ABSENT], [LIMIT], [LIMIT]])

    def test_the_entry_from_far_comes_to_the_near_front(self):
        found = run(do(0, [1]), room(NEAR, 0), room(NEAR, 256), do(0, [2]), do(0, [1]), room(NEAR, 3),
                    missing(NEAR, 0, [1]), missing(NEAR, 0, [2]))
        self.assertEqual(found[4:], [[2, 0, 1], [1], [LIMIT], [ABSENT]])

    def test_a_cut_near_entry_is_spoilt_and_the_far_one_answers(self):
        found = run(do(1, GIVEN), cut(NEAR, 1, 2, GIVEN), do(1, GIVEN), do(1, GIVEN), counts())
        self.assertEqual(found[2:], [[2, 0, 3, 2, 1], [1, 0, 3, 2, 1], [0, 1, 1, 1, 1, 0, 1, 7]])

    def test_both_cut_the_tool_is_worked_and_both_are_whole_again(self):
        found = run(do(1, GIVEN), cut(NEAR, 1, 0, GIVEN), cut(FAR, 1, 2, GIVEN), do(1, GIVEN), counts(),
                    do(1, GIVEN), room(NEAR, 0), do(1, GIVEN), counts())
        self.assertEqual(found[3:], [[0, 0, 3, 2, 1], [0, 2, 0, 0, 2, 0, 2, 7], [1, 0, 3, 2, 1], [1],
                                     [2, 0, 3, 2, 1], [0, 2, 1, 1, 2, 1, 2, 0]])

    def test_a_cut_far_entry_stays_while_the_near_one_answers(self):
        found = run(do(1, GIVEN), cut(FAR, 1, 1, GIVEN), do(1, GIVEN), counts(), cut(FAR, 1, 2, GIVEN),
                    cut(FAR, 1, 1, GIVEN))
        self.assertEqual(found[2:], [[1, 0, 3, 2, 1], [0, 1, 1, 0, 1, 0, 0, 7], [LIMIT], [0]])

    def test_a_cut_near_entry_with_the_far_store_away(self):
        found = run(do(1, GIVEN), there(0), cut(NEAR, 1, 1, GIVEN), do(1, GIVEN), do(1, GIVEN), counts())
        self.assertEqual(found[3:], [[0, 0, 3, 2, 1], [1, 0, 3, 2, 1], [0, 2, 1, 0, 1, 0, 1, 7]])

    def test_a_spoilt_far_entry_comes_anew_as_the_newest(self):
        found = run(do(0, [1]), do(0, [2]), room(NEAR, 0), cut(FAR, 0, 0, [1]), do(0, [1]), room(FAR, 3),
                    missing(FAR, 0, [1]), missing(FAR, 0, [2]))
        self.assertEqual(found[4:], [[0, 0, 1], [1], [LIMIT], [ABSENT]])

    def test_the_spoilt_entry_gives_its_room_free_before_another_is_kept(self):
        found = run(room(NEAR, 7), do(1, GIVEN), cut(NEAR, 1, 0, GIVEN), do(1, GIVEN), counts())
        self.assertEqual(found[4], [0, 1, 0, 1, 1, 0, 1, 7])

    def test_the_two_stores_do_not_share_an_entry(self):
        # Kept at once in both, or brought from the far store: cutting one leaves the other.
        kept = [do(1, GIVEN)]
        brought = [do(1, GIVEN), room(NEAR, 0), room(NEAR, 256), do(1, GIVEN)]
        for calls in (kept, brought):
            self.assertEqual(last(*calls, cut(FAR, 1, 0, GIVEN), do(1, GIVEN)), [1, 0, 3, 2, 1])
            self.assertEqual(last(*calls, cut(NEAR, 1, 0, GIVEN), do(1, GIVEN)), [2, 0, 3, 2, 1])


class Refused(unittest.TestCase):
    def test_tools(self):
        for tool, refused in ((-HUGE, True), (-1, True), (0, False), (5, False), (6, True), (HUGE, True)):
            self.assertEqual(last(do(tool, [1])) == [TOOL], refused)
            self.assertEqual(last(do(tool, [1]))[0], TOOL if refused else 0)

    def test_input_lengths(self):
        for length, refused in ((0, False), (63, False), (64, False), (65, True), (99, True), (100, True)):
            for tool in range(6):
                answer = last(do(tool, [1] * length))
                self.assertEqual(answer == [INPUT], refused)
                self.assertEqual(answer[0], INPUT if refused else 0)

    def test_bytes(self):
        for number, refused in ((-HUGE, True), (-1, True), (0, False), (255, False), (256, True), (HUGE, True)):
            for given in ([number], [number, 1], [1, number], [1, number, 1], [1] * 63 + [number]):
                answer = last(do(0, given))
                self.assertEqual(answer, [INPUT] if refused else [0, 0] + given)

    def test_the_tool_is_looked_at_first(self):
        for given in ([256], [-1], [1] * 65, [1]):
            self.assertEqual(last(do(6, given)), [TOOL])
            self.assertEqual(last(do(-1, given)), [TOOL])

    def test_refused_leaves_everything_as_it_was(self):
        wrong = [do(6, [1]), do(-1, [1]), do(0, [256]), do(0, [1] * 65), do(1, [-1])]
        found = run(do(0, [1]), do(0, [2]), *wrong, counts(), room(NEAR, 3), missing(NEAR, 0, [2]), room(FAR, 3),
                    missing(FAR, 0, [2]), do(0, [2]))
        self.assertEqual(found[2:7], [[TOOL], [TOOL], [INPUT], [INPUT], [INPUT]])
        self.assertEqual(found[7:], [[0, 2, 0, 0, 2, 0, 0, 6], [1], [LIMIT], [1], [LIMIT], [1, 0, 2]])


def some_call(source):
    """A call at random on few actions, so that entries are met again."""
    tool = source.randrange(6)
    given = [source.choice((0, 1, 255))] * source.choice((0, 1, 3, 20))
    store = source.randrange(2)
    return source.choice((do(tool, given), do(tool, given), do(tool, given), do(tool, given),
                          cut(store, tool, source.randrange(4), given), room(store, source.choice((0, 30, 90, 300))),
                          there(source.randrange(2)), send(source.randrange(2)), failing(source.randrange(2))))


class WhateverHappens(unittest.TestCase):
    def test_the_outcome_is_the_one_that_working_has(self):
        source = random.Random(20)
        for turn in range(60):
            calls = [some_call(source) for place in range(200)]
            found = run(*[call for pair in zip(calls, [counts()] * 200) for call in pair])
            self.check_line(calls, found[0::2], found[1::2])

    def check_line(self, calls, told, counted):
        froms = [0, 0, 0]
        near_room = 256
        dropped_by_room = 0
        for call, answer, count in zip(calls, told, counted):
            if call[0] == 4:
                self.assertEqual(answer[1:], worked(call[1], call[3:]))
                froms[answer[0]] += 1
            if call[0] == 0:
                near_room = call[2] if call[1] == NEAR else near_room
                dropped_by_room += answer[0]
            self.assertEqual(count[1:4], froms)
            self.assertLessEqual(count[4], froms[0])
            self.assertGreaterEqual(count[5], dropped_by_room)
            self.assertLessEqual(count[7], near_room)


if __name__ == "__main__":
    unittest.main()
