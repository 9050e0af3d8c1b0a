"""Points 10 and 11: has and list, which tell what a store holds and change nothing."""

import unittest

from lines import (FAR, HUGE, INPUT, NEAR, STORE, TOOL, clean, counts, cut, do, failing, forget, has, last, listing,
                   order, room, run, send, share, there, wrong_looks)

GIVEN = [1, 2, 3]
ABC = [(0, [1]), (0, [2]), (0, [3])]
MADE = [do(tool, given) for tool, given in ABC]


class Has(unittest.TestCase):
    def test_no_entry(self):
        for store in (NEAR, FAR):
            for tool, given in ((1, GIVEN), (0, [3, 2, 1]), (0, [1, 2]), (0, [1, 2, 3, 0]), (0, []), (5, [1] * 64)):
                self.assertEqual(last(has(store, tool, given)), [0])
                self.assertEqual(last(do(0, GIVEN), has(store, tool, given)), [0])

    def test_a_whole_one(self):
        for store in (NEAR, FAR):
            for tool in range(6):
                self.assertEqual(last(do(tool, GIVEN), has(store, tool, GIVEN)), [1, 0])
            self.assertEqual(last(do(0, []), has(store, 0, [])), [1, 0])
            self.assertEqual(last(do(3, [255] * 64), has(store, 3, [255] * 64)), [1, 0])

    def test_a_cut_one(self):
        for store in (NEAR, FAR):
            for n, answer in ((0, 2), (1, 2), (2, 2), (3, 1)):
                calls = [do(0, GIVEN), cut(store, 0, n, GIVEN)]
                self.assertEqual(last(*calls, has(store, 0, GIVEN)), [answer, 0])
                self.assertEqual(last(*calls, has(1 - store, 0, GIVEN)), [1, 0])

    def test_the_place_from_the_front(self):
        for store in (NEAR, FAR):
            self.assertEqual(run(*MADE, *order(store, ABC))[3:], [[1, 2], [1, 1], [1, 0]])
            found = run(*MADE, cut(store, 0, 0, [1]), cut(store, 0, 0, [2]), *order(store, ABC))
            self.assertEqual(found[5:], [[2, 2], [2, 1], [1, 0]])

    def test_use_moves_an_entry_to_the_near_front_alone(self):
        found = run(*MADE, do(0, [1]), *order(NEAR, ABC), *order(FAR, ABC))
        self.assertEqual(found[4:], [[1, 0], [1, 2], [1, 1], [1, 2], [1, 1], [1, 0]])

    def test_a_place_far_back(self):
        calls = [do(5, [number]) for number in range(1, 129)]
        found = run(*calls, *[has(store, 5, [number]) for store in (NEAR, FAR) for number in (1, 2, 100, 128)])
        self.assertEqual(found[128:], [[1, 127], [1, 126], [1, 28], [1, 0]] * 2)

    def test_a_failing_one(self):
        self.assertEqual(run(do(5, [0]), has(NEAR, 5, [0]), has(FAR, 5, [0]))[1:], [[0], [0]])
        self.assertEqual(run(failing(1), do(5, [0]), has(NEAR, 5, [0]), has(FAR, 5, [0]))[2:], [[1, 0], [1, 0]])

    def test_asking_changes_nothing(self):
        asked = [has(store, tool, given) for store in (NEAR, FAR) for tool, given in ABC]
        made = [*MADE, cut(NEAR, 0, 0, [1]), cut(FAR, 0, 0, [2])]
        behind = [listing(NEAR), listing(FAR), counts(), do(0, [1]), do(0, [2]), do(0, [3]), room(NEAR, 3), counts()]
        self.assertEqual(run(*made, *asked, *behind)[-8:], run(*made, *behind)[-8:])

    def test_the_far_store_need_not_be_there(self):
        found = run(*MADE, cut(FAR, 0, 0, [2]), there(0), *order(FAR, ABC), has(FAR, 0, [4]))
        self.assertEqual(found[5:], [[1, 2], [2, 1], [1, 0], [0]])

    def test_behind_forget_clean_and_share(self):
        found = run(*MADE, cut(NEAR, 0, 0, [1]), forget(FAR, 0, [3]), clean(NEAR), share(), *order(NEAR, ABC),
                    *order(FAR, ABC))
        self.assertEqual(found[5:7], [[1], [1]])
        self.assertEqual(found[7:], [[0], [1, 1], [1, 0], [1, 2], [1, 1], [1, 0]])


class HasRefused(unittest.TestCase):
    def test_stores_and_tools(self):
        for store, answer in ((-HUGE, [STORE]), (-1, [STORE]), (0, [1, 0]), (1, [1, 0]), (2, [STORE]),
                              (HUGE, [STORE])):
            self.assertEqual(last(do(0, GIVEN), has(store, 0, GIVEN)), answer)
        for tool, answer in ((-HUGE, [TOOL]), (-1, [TOOL]), (0, [1, 1]), (4, [0]), (5, [1, 0]), (6, [TOOL]),
                             (HUGE, [TOOL])):
            self.assertEqual(last(do(0, GIVEN), do(5, GIVEN), has(NEAR, tool, GIVEN)), answer)

    def test_inputs(self):
        for given in ([0], [255], [1] * 64):
            self.assertEqual(last(has(FAR, 0, given)), [0])
            self.assertEqual(last(do(3, given), has(FAR, 3, given)), [1, 0])
        for given in ([-1], [256], [-HUGE], [HUGE], [1] * 65, [1] * 100):
            self.assertEqual(last(has(FAR, 0, given)), [INPUT])

    def test_the_order_of_looking(self):
        for call, answer in wrong_looks(has):
            self.assertEqual(last(do(0, [1]), call), [answer], call)


class Listed(unittest.TestCase):
    def test_an_empty_store(self):
        self.assertEqual(run(listing(NEAR), listing(FAR)), [[0], [0]])
        self.assertEqual(run(do(0, [1]), room(NEAR, 0), listing(NEAR), forget(FAR, 0, [1]), listing(FAR))[2:],
                         [[0], [0], [0]])

    def test_the_five_numbers_of_each_tool_s_entry(self):
        rows = [[0, 0, 3, 3, 3], [1, 0, 3, 3, 3], [2, 0, 3, 3, 3], [3, 0, 2, 2, 3], [4, 0, 6, 6, 3], [5, 1, 1, 1, 3]]
        for store in (NEAR, FAR):
            for tool in range(6):
                self.assertEqual(last(failing(1), do(tool, [7, 0, 9]), listing(store)), [0] + rows[tool])
        self.assertEqual(last(do(5, GIVEN), listing(NEAR)), [0, 5, 0, 0, 0, 3])
        self.assertEqual(last(do(4, [1] * 64), listing(FAR)), [0, 4, 0, 128, 128, 64])
        self.assertEqual(last(do(0, []), listing(FAR)), [0, 0, 0, 0, 0, 0])

    def test_several_in_order_cut_ones_among_them(self):
        made = [failing(1), do(0, [1, 2]), do(5, [0]), do(3, []), do(4, [8])]
        for store in (NEAR, FAR):
            found = run(*made, listing(store), cut(store, 4, 1, [8]), cut(store, 0, 0, [1, 2]), listing(store),
                        listing(1 - store))
            self.assertEqual(found[5], [0, 4, 0, 2, 2, 1, 3, 0, 2, 2, 0, 5, 1, 1, 1, 1, 0, 0, 2, 2, 2])
            self.assertEqual(found[8], [0, 4, 0, 2, 1, 1, 3, 0, 2, 2, 0, 5, 1, 1, 1, 1, 0, 0, 2, 0, 2])
            self.assertEqual(found[9], found[5])

    def test_the_order_behind_use_and_behind_a_far_answer(self):
        found = run(do(0, []), do(0, [1]), do(0, [1, 2]), do(0, []), listing(NEAR), listing(FAR), room(NEAR, 0),
                    room(NEAR, 256), do(0, [1]), listing(NEAR), listing(FAR))
        self.assertEqual(found[4], [0, 0, 0, 0, 0, 0, 0, 0, 2, 2, 2, 0, 0, 1, 1, 1])
        self.assertEqual(found[5], [0, 0, 0, 2, 2, 2, 0, 0, 1, 1, 1, 0, 0, 0, 0, 0])
        self.assertEqual(found[9:], [[0, 0, 0, 1, 1, 1], found[5]])

    def test_asking_changes_nothing(self):
        made = [*MADE, cut(NEAR, 0, 0, [1]), cut(FAR, 0, 0, [2])]
        behind = [*order(NEAR, ABC), *order(FAR, ABC), counts(), do(0, [1]), do(0, [2]), room(NEAR, 3), counts()]
        self.assertEqual(run(*made, listing(NEAR), listing(FAR), *behind)[7:], run(*made, *behind)[5:])
        found = run(*made, listing(NEAR), listing(NEAR))
        self.assertEqual(found[5], found[6])

    def test_the_far_store_need_not_be_there(self):
        found = run(*MADE, listing(FAR), there(0), listing(FAR))
        self.assertEqual(found[5], found[3])
        self.assertEqual(found[5], [0] + [0, 0, 1, 1, 1] * 3)

    def test_each_store_by_itself(self):
        found = run(send(0), do(1, GIVEN), listing(NEAR), listing(FAR), share(), listing(FAR))
        self.assertEqual(found[2:], [[0, 1, 0, 3, 3, 3], [0], [1], [0, 1, 0, 3, 3, 3]])

    def test_a_store_as_full_as_it_may_be(self):
        calls = [do(5, [number]) for number in range(1, 256)] + [do(0, [number]) for number in range(130)]
        found = run(room(NEAR, 1024), *calls, listing(NEAR), listing(FAR), counts())
        self.assertEqual(found[-3], [0] + [0, 0, 1, 1, 1] * 130 + [5, 0, 0, 0, 1] * 255)
        # 85 of size 3 are 255; 256 leave no room for another.
        self.assertEqual(found[-2], [0] + [0, 0, 1, 1, 1] * 85)
        self.assertEqual(found[-1], [0, 385, 0, 0, 385, 300, 0, 900])

    def test_stores(self):
        for store in (-HUGE, -1, 2, 3, HUGE):
            found = run(do(0, [1]), listing(store), listing(NEAR))
            self.assertEqual(found[1:], [[STORE], [0, 0, 0, 1, 1, 1]])


if __name__ == "__main__":
    unittest.main()
