"""Point 8: clean, of none, one and several cut entries, in each store."""

import itertools
import unittest

from lines import FAR, HUGE, NEAR, STORE, clean, counts, cut, do, failing, has, last, listing, order, room, run, there

ABCD = [(0, [1]), (1, [2, 2]), (4, [3]), (3, [4])]
MADE = [do(tool, given) for tool, given in ABCD]
SIZES = [3, 5, 4, 4]


class Clean(unittest.TestCase):
    def test_an_empty_store(self):
        self.assertEqual(run(clean(NEAR), clean(FAR), counts()), [[0], [0], [0] * 8])

    def test_none_cut(self):
        found = run(*MADE, clean(NEAR), clean(FAR), counts(), *order(NEAR, ABCD), *order(FAR, ABCD))
        self.assertEqual(found[4:7], [[0], [0], [0, 4, 0, 0, 4, 0, 0, 16]])
        self.assertEqual(found[7:], [[1, 3], [1, 2], [1, 1], [1, 0]] * 2)

    def test_each_choice_of_cut_ones(self):
        for store in (NEAR, FAR):
            for chosen in itertools.product((False, True), repeat=4):
                self.check_choice(store, chosen)

    def check_choice(self, store, chosen):
        cuts = [cut(store, tool, 0, given) for (tool, given), is_cut in zip(ABCD, chosen) if is_cut]
        found = run(*MADE, *cuts, clean(store), counts(), *order(store, ABCD), *order(1 - store, ABCD))
        found = found[4 + len(cuts):]
        self.assertEqual(found[0], [len(cuts)])
        load = sum(size for size, is_cut in zip(SIZES, chosen) if store == FAR or not is_cut)
        self.assertEqual(found[1], [0, 4, 0, 0, 4, 0, len(cuts), load])
        left = [place for place in (3, 2, 1, 0) if not chosen[place]]
        self.assertEqual(found[2:6], [[1, left.index(place)] if place in left else [0] for place in range(4)])
        self.assertEqual(found[6:], [[1, 3], [1, 2], [1, 1], [1, 0]])

    def test_both_stores_each_by_itself(self):
        found = run(*MADE, cut(NEAR, 0, 0, [1]), cut(FAR, 0, 0, [1]), cut(FAR, 4, 1, [3]), clean(NEAR), counts(),
                    clean(FAR), counts())
        self.assertEqual(found[7:], [[1], [0, 4, 0, 0, 4, 0, 1, 13], [2], [0, 4, 0, 0, 4, 0, 3, 13]])

    def test_the_second_time_there_is_nothing(self):
        for store in (NEAR, FAR):
            found = run(*MADE, cut(store, 0, 0, [1]), clean(store), clean(store), counts())
            self.assertEqual([found[5], found[6], found[7][6]], [[1], [0], 1])

    def test_cut_by_one_byte_is_cut_and_to_all_its_bytes_is_not(self):
        for store in (NEAR, FAR):
            for n, taken in ((0, 1), (1, 1), (2, 1), (3, 0)):
                self.assertEqual(last(do(0, [7, 8, 9]), cut(store, 0, n, [7, 8, 9]), clean(store)), [taken])

    def test_an_entry_without_output_is_whole(self):
        for tool, given in ((0, []), (1, []), (2, []), (4, []), (5, []), (5, [1])):
            for store in (NEAR, FAR):
                found = run(do(tool, given), cut(store, tool, 0, given), clean(store), has(store, tool, given))
                self.assertEqual(found[1:], [[0], [0], [1, 0]])

    def test_a_failing_entry(self):
        for store in (NEAR, FAR):
            found = run(failing(1), do(5, [0]), failing(0), clean(store), cut(store, 5, 0, [0]), clean(store),
                        has(store, 5, [0]))
            self.assertEqual(found[3:], [[0], [0], [1], [0]])

    def test_what_do_answers_behind_it(self):
        found = run(do(0, [1]), cut(NEAR, 0, 0, [1]), clean(NEAR), do(0, [1]), counts())
        self.assertEqual(found[2:], [[1], [2, 0, 1], [0, 1, 0, 1, 1, 0, 1, 3]])
        found = run(do(0, [1]), cut(FAR, 0, 0, [1]), clean(FAR), do(0, [1]), room(NEAR, 0), do(0, [1]), counts())
        self.assertEqual(found[2:], [[1], [1, 0, 1], [1], [0, 0, 1], [0, 2, 1, 0, 2, 1, 1, 0]])

    def test_its_room_is_free_again(self):
        for store in (NEAR, FAR):
            found = run(room(store, 3), do(0, [1]), cut(store, 0, 0, [1]), clean(store), do(0, [2]), counts())
            self.assertEqual((found[5][5], found[5][6]), (0, 1))

    def test_the_far_store_need_not_be_there(self):
        found = run(do(0, [1]), cut(FAR, 0, 0, [1]), there(0), clean(FAR), clean(FAR), has(FAR, 0, [1]), counts())
        self.assertEqual(found[3:], [[1], [0], [0], [0, 1, 0, 0, 1, 0, 1, 3]])


class Refused(unittest.TestCase):
    def test_stores(self):
        made = [do(0, [1]), cut(NEAR, 0, 0, [1]), cut(FAR, 0, 0, [1])]
        asked = [listing(NEAR), listing(FAR), counts()]
        for store in (-HUGE, -1, 2, 3, HUGE):
            found = run(*made, clean(store), *asked)
            self.assertEqual(found[3], [STORE])
            self.assertEqual(found[4:], run(*made, *asked)[3:])
        for store in (NEAR, FAR):
            self.assertEqual(last(*made, clean(store)), [1])


if __name__ == "__main__":
    unittest.main()
