"""Point 6: cut, of an entry of the near and of the far store."""

import unittest

from lines import (ABSENT, FAR, HUGE, INPUT, LIMIT, NEAR, STORE, TOOL, counts, cut, do, failing, last, room, run,
                   there)

GIVEN = [1, 2, 3]


class Cut(unittest.TestCase):
    def test_near_then_do(self):
        for n in (0, 1, 2):
            found = run(do(1, GIVEN), cut(NEAR, 1, n, GIVEN), do(1, GIVEN), counts())
            self.assertEqual(found[1:], [[0], [2, 0, 3, 2, 1], [0, 1, 0, 1, 1, 0, 1, 7]])

    def test_far_then_do(self):
        for n in (0, 1, 2):
            found = run(do(1, GIVEN), cut(FAR, 1, n, GIVEN), do(1, GIVEN), room(NEAR, 0), do(1, GIVEN), counts())
            self.assertEqual(found[1:], [[0], [1, 0, 3, 2, 1], [1], [0, 0, 3, 2, 1], [0, 2, 1, 0, 2, 1, 1, 0]])

    def test_at_the_count_of_bytes_it_stays_whole(self):
        found = run(do(1, GIVEN), cut(NEAR, 1, 3, GIVEN), cut(FAR, 1, 3, GIVEN), do(1, GIVEN), room(NEAR, 0),
                    do(1, GIVEN), counts())
        self.assertEqual(found[1:], [[0], [0], [1, 0, 3, 2, 1], [1], [2, 0, 3, 2, 1], [0, 1, 1, 1, 1, 1, 0, 0]])

    def test_an_empty_output_cannot_be_spoilt(self):
        for tool, given in ((0, []), (1, []), (2, []), (4, []), (5, []), (5, GIVEN)):
            found = run(do(tool, given), cut(NEAR, tool, 0, given), cut(FAR, tool, 0, given),
                        cut(NEAR, tool, 1, given), do(tool, given), room(NEAR, 0), do(tool, given))
            self.assertEqual(found[1:], [[0], [0], [LIMIT], [1, 0], [1], [2, 0]])

    def test_the_edges_of_n(self):
        for store in (NEAR, FAR):
            for n, answer in ((-HUGE, LIMIT), (-1, LIMIT), (0, 0), (1, 0), (3, 0), (4, LIMIT), (HUGE, LIMIT)):
                self.assertEqual(last(do(1, GIVEN), cut(store, 1, n, GIVEN)), [answer])

    def test_n_is_held_to_the_bytes_that_are_left(self):
        for store in (NEAR, FAR):
            found = run(do(1, GIVEN), cut(store, 1, 2, GIVEN), cut(store, 1, 3, GIVEN), cut(store, 1, 2, GIVEN),
                        cut(store, 1, 1, GIVEN), cut(store, 1, 2, GIVEN), cut(store, 1, 0, GIVEN),
                        cut(store, 1, 1, GIVEN), cut(store, 1, 0, GIVEN))
            self.assertEqual(found[1:], [[0], [LIMIT], [0], [0], [LIMIT], [0], [LIMIT], [0]])

    def test_n_is_held_to_the_output_not_the_input(self):
        self.assertEqual(last(do(4, GIVEN), cut(NEAR, 4, 6, GIVEN)), [0])
        self.assertEqual(last(do(4, GIVEN), cut(NEAR, 4, 7, GIVEN)), [LIMIT])
        self.assertEqual(last(do(3, GIVEN), cut(NEAR, 3, 2, GIVEN)), [0])
        self.assertEqual(last(do(3, GIVEN), cut(NEAR, 3, 3, GIVEN)), [LIMIT])

    def test_a_failing_entry_is_cut_too(self):
        found = run(failing(1), do(5, [0, 7]), cut(NEAR, 5, 0, [0, 7]), do(5, [0, 7]), counts())
        self.assertEqual(found[2:], [[0], [2, 1, 1], [0, 1, 0, 1, 1, 0, 1, 4]])

    def test_only_the_entry_for_just_these_is_cut(self):
        found = run(do(0, GIVEN), do(1, GIVEN), do(0, [1, 2]), cut(NEAR, 0, 1, GIVEN), do(1, GIVEN), do(0, [1, 2]),
                    do(0, GIVEN))
        self.assertEqual(found[4:], [[1, 0, 3, 2, 1], [1, 0, 1, 2], [2, 0, 1, 2, 3]])

    def test_the_far_store_need_not_be_there(self):
        found = run(do(1, GIVEN), there(0), cut(FAR, 1, 1, GIVEN), there(1), room(NEAR, 0), do(1, GIVEN), counts())
        self.assertEqual(found[2:], [[0], [0], [1], [0, 0, 3, 2, 1], [0, 2, 0, 0, 2, 1, 1, 0]])

    def test_cutting_counts_nothing_and_frees_no_room(self):
        found = run(do(1, GIVEN), cut(NEAR, 1, 0, GIVEN), cut(FAR, 1, 0, GIVEN), counts())
        self.assertEqual(found[3], [0, 1, 0, 0, 1, 0, 0, 7])


class Refused(unittest.TestCase):
    def test_absent(self):
        for store in (NEAR, FAR):
            for tool, given in ((1, GIVEN), (0, [3, 2, 1]), (0, [1, 2]), (0, [1, 2, 3, 0]), (0, [])):
                self.assertEqual(last(do(0, GIVEN), cut(store, tool, 0, given)), [ABSENT])
                self.assertEqual(last(cut(store, tool, 0, given)), [ABSENT])

    def test_absent_from_one_store_alone(self):
        self.assertEqual(run(there(0), do(0, GIVEN), cut(FAR, 0, 0, GIVEN), cut(NEAR, 0, 0, GIVEN))[2:],
                         [[ABSENT], [0]])
        self.assertEqual(run(room(NEAR, 0), do(0, GIVEN), cut(NEAR, 0, 0, GIVEN), cut(FAR, 0, 0, GIVEN))[2:],
                         [[ABSENT], [0]])

    def test_stores(self):
        for store, answer in ((-HUGE, STORE), (-1, STORE), (0, 0), (1, 0), (2, STORE), (HUGE, STORE)):
            self.assertEqual(last(do(0, GIVEN), cut(store, 0, 1, GIVEN)), [answer])

    def test_tools(self):
        for tool, answer in ((-HUGE, TOOL), (-1, TOOL), (0, 0), (4, ABSENT), (5, ABSENT), (6, TOOL), (HUGE, TOOL)):
            self.assertEqual(last(do(0, GIVEN), cut(NEAR, tool, 1, GIVEN)), [answer])

    def test_inputs(self):
        for given in ([1] * 65, [1] * 100, [-1], [256], [1, -HUGE], [HUGE, 1]):
            for store in (NEAR, FAR):
                self.assertEqual(last(cut(store, 0, 0, given)), [INPUT])
        for given in ([1] * 64, [0], [255], []):
            self.assertEqual(last(cut(NEAR, 0, 0, given)), [ABSENT])
            self.assertEqual(last(do(3, given), cut(NEAR, 3, 0, given)), [0])

    def test_the_order_of_looking(self):
        for n in (-HUGE, -1, 0, HUGE):
            self.assertEqual(last(cut(2, 6, n, [256])), [STORE])
            self.assertEqual(last(cut(-1, 0, n, [256])), [STORE])
            self.assertEqual(last(cut(2, 6, n, [1])), [STORE])
            self.assertEqual(last(cut(1, 6, n, [256])), [TOOL])
            self.assertEqual(last(cut(0, -1, n, [1] * 65)), [TOOL])
            self.assertEqual(last(cut(0, 6, n, [1])), [TOOL])
            self.assertEqual(last(cut(1, 5, n, [256])), [INPUT])
            self.assertEqual(last(cut(0, 0, n, [1] * 65)), [INPUT])
            self.assertEqual(last(cut(0, 0, n, [1])), [ABSENT])

    def test_refused_leaves_everything_as_it_was(self):
        wrong = [cut(2, 0, 0, GIVEN), cut(NEAR, 6, 0, GIVEN), cut(NEAR, 0, 0, [256]), cut(NEAR, 0, 0, [1]),
                 cut(NEAR, 0, 4, GIVEN), cut(NEAR, 0, -1, GIVEN), cut(FAR, 0, 4, GIVEN), cut(FAR, 0, -1, GIVEN)]
        found = run(do(0, GIVEN), *wrong, counts(), do(0, GIVEN), room(NEAR, 0), do(0, GIVEN))
        self.assertEqual(found[1:9], [[STORE], [TOOL], [INPUT], [ABSENT], [LIMIT], [LIMIT], [LIMIT], [LIMIT]])
        self.assertEqual(found[9:], [[0, 1, 0, 0, 1, 0, 0, 7], [1, 0, 1, 2, 3], [1], [2, 0, 1, 2, 3]])


if __name__ == "__main__":
    unittest.main()
