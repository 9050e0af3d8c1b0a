"""Point 7: forget, of an entry of the near and of the far store."""

import unittest

from lines import (ABSENT, FAR, HUGE, INPUT, NEAR, STORE, TOOL, clean, counts, cut, do, failing, forget, has, last,
                   listing, order, room, run, there, wrong_looks)

GIVEN = [1, 2, 3]
ABC = [(0, [1]), (0, [2]), (0, [3])]


class Forget(unittest.TestCase):
    def test_near_then_the_far_store_answers(self):
        found = run(do(1, GIVEN), forget(NEAR, 1, GIVEN), has(NEAR, 1, GIVEN), has(FAR, 1, GIVEN), counts(),
                    do(1, GIVEN), counts(), do(1, GIVEN))
        self.assertEqual(found[1:], [[0], [0], [1, 0], [0, 1, 0, 0, 1, 0, 0, 0], [2, 0, 3, 2, 1],
                                     [0, 1, 0, 1, 1, 0, 0, 7], [1, 0, 3, 2, 1]])

    def test_far_then_the_near_store_answers(self):
        found = run(do(1, GIVEN), forget(FAR, 1, GIVEN), has(NEAR, 1, GIVEN), has(FAR, 1, GIVEN), counts(),
                    do(1, GIVEN), has(FAR, 1, GIVEN))
        self.assertEqual(found[1:], [[0], [1, 0], [0], [0, 1, 0, 0, 1, 0, 0, 7], [1, 0, 3, 2, 1], [0]])

    def test_both_then_the_tool_is_worked_and_kept_anew(self):
        found = run(do(1, GIVEN), forget(NEAR, 1, GIVEN), forget(FAR, 1, GIVEN), listing(NEAR), listing(FAR),
                    do(1, GIVEN), has(NEAR, 1, GIVEN), has(FAR, 1, GIVEN), counts())
        self.assertEqual(found[1:], [[0], [0], [0], [0], [0, 0, 3, 2, 1], [1, 0], [1, 0], [0, 2, 0, 0, 2, 0, 0, 7]])

    def test_a_cut_entry_is_forgotten_and_not_counted_as_spoilt(self):
        for store, load in ((NEAR, 0), (FAR, 7)):
            found = run(do(1, GIVEN), cut(store, 1, 0, GIVEN), forget(store, 1, GIVEN), has(store, 1, GIVEN),
                        clean(store), counts())
            self.assertEqual(found[2:], [[0], [0], [0], [0, 1, 0, 0, 1, 0, 0, load]])

    def test_an_entry_with_nothing_in_it(self):
        for store in (NEAR, FAR):
            self.assertEqual(run(do(0, []), forget(store, 0, []), has(store, 0, []))[1:], [[0], [0]])

    def test_a_failing_entry(self):
        found = run(failing(1), do(5, [0, 7]), forget(NEAR, 5, [0, 7]), do(5, [0, 7]), forget(NEAR, 5, [0, 7]),
                    forget(FAR, 5, [0, 7]), failing(0), do(5, [0, 7]), has(NEAR, 5, [0, 7]))
        self.assertEqual(found[2:], [[0], [2, 1, 1], [0], [0], [0], [0, 1, 1], [0]])

    def test_the_others_stay_in_their_order(self):
        made = [do(tool, given) for tool, given in ABC]
        for store in (NEAR, FAR):
            for gone, left in ((0, ([0], [1, 1], [1, 0])), (1, ([1, 1], [0], [1, 0])), (2, ([1, 1], [1, 0], [0]))):
                found = run(*made, forget(store, *ABC[gone]), *order(store, ABC), *order(1 - store, ABC))
                self.assertEqual(found[4:7], list(left))
                self.assertEqual(found[7:], [[1, 2], [1, 1], [1, 0]])

    def test_its_room_is_free_again(self):
        for store in (NEAR, FAR):
            found = run(room(store, 7), do(0, GIVEN), forget(store, 0, GIVEN), do(1, GIVEN), counts(),
                        has(store, 1, GIVEN))
            self.assertEqual(found[4][5], 0)
            self.assertEqual(found[5], [1, 0])

    def test_only_the_entry_for_just_these(self):
        near = [(0, GIVEN), (1, GIVEN), (0, [1, 2]), (0, [3, 2, 1]), (0, [1, 2, 3, 0])]
        made = [do(tool, given) for tool, given in near]
        for store in (NEAR, FAR):
            found = run(*made, forget(store, 0, GIVEN), *order(store, near))
            self.assertEqual(found[6:], [[0], [1, 3], [1, 2], [1, 1], [1, 0]])

    def test_the_far_store_need_not_be_there(self):
        found = run(do(1, GIVEN), there(0), forget(FAR, 1, GIVEN), has(FAR, 1, GIVEN), forget(FAR, 1, GIVEN),
                    there(1), forget(NEAR, 1, GIVEN), do(1, GIVEN))
        self.assertEqual(found[2:], [[0], [0], [ABSENT], [0], [0], [0, 0, 3, 2, 1]])


class Refused(unittest.TestCase):
    def test_absent(self):
        for store in (NEAR, FAR):
            for tool, given in ((1, GIVEN), (0, [3, 2, 1]), (0, [1, 2]), (0, [1, 2, 3, 0]), (0, [])):
                self.assertEqual(last(forget(store, tool, given)), [ABSENT])
                self.assertEqual(last(do(0, GIVEN), forget(store, tool, given)), [ABSENT])

    def test_absent_the_second_time(self):
        for store in (NEAR, FAR):
            self.assertEqual(run(do(0, GIVEN), *[forget(store, 0, GIVEN)] * 3)[1:], [[0], [ABSENT], [ABSENT]])

    def test_absent_from_one_store_alone(self):
        self.assertEqual(run(there(0), do(0, GIVEN), forget(FAR, 0, GIVEN), forget(NEAR, 0, GIVEN))[2:],
                         [[ABSENT], [0]])
        self.assertEqual(run(room(NEAR, 0), do(0, GIVEN), forget(NEAR, 0, GIVEN), forget(FAR, 0, GIVEN))[2:],
                         [[ABSENT], [0]])

    def test_what_was_dropped_or_taken_out_is_absent(self):
        for store in (NEAR, FAR):
            self.assertEqual(last(do(0, GIVEN), room(store, 6), forget(store, 0, GIVEN)), [ABSENT])
            self.assertEqual(last(do(0, GIVEN), cut(store, 0, 1, GIVEN), clean(store), forget(store, 0, GIVEN)),
                             [ABSENT])

    def test_stores(self):
        for store, answer in ((-HUGE, STORE), (-1, STORE), (0, 0), (1, 0), (2, STORE), (HUGE, STORE)):
            self.assertEqual(last(do(0, GIVEN), forget(store, 0, GIVEN)), [answer])

    def test_tools(self):
        for tool, answer in ((-HUGE, TOOL), (-1, TOOL), (0, 0), (4, ABSENT), (5, 0), (6, TOOL), (HUGE, TOOL)):
            self.assertEqual(last(do(0, GIVEN), do(5, GIVEN), forget(NEAR, tool, GIVEN)), [answer])

    def test_inputs(self):
        for given in ([], [0], [255], [1] * 64, [0] * 64, [255] * 64):
            for store in (NEAR, FAR):
                self.assertEqual(last(forget(store, 3, given)), [ABSENT])
                self.assertEqual(last(do(3, given), forget(store, 3, given)), [0])
        for given in ([-1], [256], [-HUGE], [HUGE], [1] * 65, [1] * 100):
            self.assertEqual(last(forget(NEAR, 3, given)), [INPUT])

    def test_the_order_of_looking(self):
        for call, answer in wrong_looks(forget):
            self.assertEqual(last(do(0, [1]), call), [answer], call)

    def test_refused_leaves_everything_as_it_was(self):
        made = [do(0, [1]), do(5, [1]), cut(NEAR, 0, 0, [1])]
        asked = [listing(NEAR), listing(FAR), counts(), do(5, [1]), do(0, [1])]
        wrong = [call for call, answer in wrong_looks(forget)] + [forget(NEAR, 1, [1]), forget(FAR, 0, [2])]
        self.assertEqual(run(*made, *wrong, *asked)[-5:], run(*made, *asked)[-5:])


if __name__ == "__main__":
    unittest.main()
