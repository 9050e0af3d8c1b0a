"""Point 1, the sizes of entries, and what keeping an entry drops."""

import unittest

from lines import (ABSENT, FAR, HUGE, LIMIT, NEAR, STORE, counts, cut, do, failing, last, missing, room, run, send,
                   there)


def byte_sets(count, size=9):
    """Inputs that tool 0 makes entries of 1 + 2 * size from."""
    return [[number] * size for number in range(count)]


class Room(unittest.TestCase):
    def test_an_empty_store_drops_nothing(self):
        self.assertEqual(run(room(NEAR, 0), room(FAR, 0), room(NEAR, 1024), room(FAR, 1024), counts()),
                         [[0], [0], [0], [0], [0] * 8])

    def test_the_last_entries_are_dropped_until_the_load_fits(self):
        a, b, c = byte_sets(3)
        made = [do(0, a), do(0, b), do(0, c)]
        for n, dropped in ((57, 0), (56, 1), (38, 1), (37, 2), (19, 2), (18, 3), (0, 3)):
            for store in (NEAR, FAR):
                found = run(*made, room(store, n), missing(store, 0, a), missing(store, 0, b),
                            missing(store, 0, c), missing(1 - store, 0, a), counts())
                self.assertEqual(found[3], [dropped])
                here = [[ABSENT]] * dropped + [[LIMIT]] * (3 - dropped)
                self.assertEqual(found[4:7], here)
                self.assertEqual(found[7], [LIMIT])
                near_load = 19 * (3 - dropped) if store == NEAR else 57
                self.assertEqual(found[8], [0, 3, 0, 0, 3, dropped, 0, near_load])

    def test_the_near_store_forgets_what_was_unused_for_longest(self):
        a, b, c = byte_sets(3)
        found = run(do(0, a), do(0, b), do(0, c), do(0, a), room(NEAR, 38),
                    missing(NEAR, 0, a), missing(NEAR, 0, b), missing(NEAR, 0, c))
        self.assertEqual(found[4:], [[1], [LIMIT], [ABSENT], [LIMIT]])

    def test_using_an_entry_from_the_middle_or_the_front_leaves_the_others_in_order(self):
        a, b, c = byte_sets(3)
        for used, order in ((a, (b, c, a)), (b, (a, c, b)), (c, (a, b, c))):
            for dropped in (1, 2):
                found = run(do(0, a), do(0, b), do(0, c), do(0, used), room(NEAR, 19 * (3 - dropped)),
                            *[missing(NEAR, 0, given) for given in order])
                self.assertEqual(found[4:], [[dropped]] + [[ABSENT]] * dropped + [[LIMIT]] * (3 - dropped))

    def test_the_far_store_forgets_what_came_first_however_it_is_used(self):
        a, b, c = byte_sets(3)
        found = run(do(0, a), do(0, b), do(0, c), room(NEAR, 0), do(0, a), do(0, a), room(FAR, 38),
                    missing(FAR, 0, a), missing(FAR, 0, b), missing(FAR, 0, c))
        self.assertEqual(found[3:], [[3], [2, 0] + a, [2, 0] + a, [1], [ABSENT], [LIMIT], [LIMIT]])

    def test_cutting_moves_nothing(self):
        a, b = byte_sets(2)
        for store in (NEAR, FAR):
            found = run(do(0, a), do(0, b), cut(store, 0, 3, a), room(store, 19),
                        missing(store, 0, a), missing(store, 0, b))
            self.assertEqual(found[3:], [[1], [ABSENT], [LIMIT]])

    def test_the_edges_of_n(self):
        for store in (NEAR, FAR):
            for n, answer in ((-HUGE, LIMIT), (-1, LIMIT), (0, 1), (1, 1), (6, 1), (7, 0), (1023, 0), (1024, 0),
                              (1025, LIMIT), (HUGE, LIMIT)):
                self.assertEqual(last(do(1, [1, 2, 3]), room(store, n)), [answer], (store, n))

    def test_the_store_is_looked_at_before_n(self):
        for store in (-HUGE, -1, 2, HUGE):
            for n in (-HUGE, -1, 0, 1024, 1025, HUGE):
                self.assertEqual(last(room(store, n)), [STORE])

    def test_a_refused_room_leaves_the_room(self):
        given = [1, 2, 3]
        found = run(room(NEAR, 7), room(FAR, 7), room(NEAR, -1), room(NEAR, 1025), room(FAR, -1), room(FAR, 1025),
                    room(2, 0), room(-1, 0), do(0, given), do(0, [4, 5, 6]), counts())
        self.assertEqual(found[-1], [0, 2, 0, 0, 2, 2, 0, 7])

    def test_more_room_brings_nothing_back(self):
        found = run(do(0, [1]), room(NEAR, 0), room(NEAR, 1024), counts(), there(0), do(0, [1]))
        self.assertEqual(found[1:], [[1], [0], [0, 1, 0, 0, 1, 1, 0, 0], [0], [0, 0, 1]])

    def test_the_far_room_is_set_while_it_is_not_there(self):
        found = run(do(0, [1]), there(0), room(FAR, 2), missing(FAR, 0, [1]), missing(NEAR, 0, [1]))
        self.assertEqual(found[2:], [[1], [ABSENT], [LIMIT]])


class Sizes(unittest.TestCase):
    def size_is(self, tool, given, size):
        for n, kept in ((size, LIMIT), (size - 1, ABSENT)):
            for store in (NEAR, FAR):
                found = run(failing(1), room(store, n), do(tool, given), missing(store, tool, given),
                            missing(1 - store, tool, given), counts())
                self.assertEqual(found[3:5], [[kept], [LIMIT]])
                near_load = 0 if store == NEAR and kept == ABSENT else size
                self.assertEqual(found[5], [0, 1, 0, 0, 1, 0, 0, near_load])

    def test_the_size_is_one_and_the_input_and_the_length(self):
        self.size_is(0, [], 1)
        self.size_is(0, [5, 6], 5)
        self.size_is(1, [1, 2, 3], 7)
        self.size_is(2, [3] * 64, 129)
        self.size_is(3, [], 3)
        self.size_is(3, [9] * 64, 67)
        self.size_is(4, [], 1)
        self.size_is(4, [1, 2], 7)
        self.size_is(4, [1] * 64, 193)
        self.size_is(5, [], 1)
        self.size_is(5, [1] * 64, 65)
        self.size_is(5, [0] * 64, 66)

    def test_a_cut_entry_keeps_its_size(self):
        found = run(do(0, [1, 2, 3]), cut(NEAR, 0, 0, [1, 2, 3]), counts(), room(NEAR, 7), room(NEAR, 6))
        self.assertEqual(found[1:], [[0], [0, 1, 0, 0, 1, 0, 0, 7], [0], [1]])

    def test_an_entry_that_never_fits_drops_nothing(self):
        found = run(room(NEAR, 7), room(FAR, 7), do(0, [1, 2, 3]), do(0, [1, 2, 3, 4]),
                    missing(NEAR, 0, [1, 2, 3]), missing(NEAR, 0, [1, 2, 3, 4]),
                    missing(FAR, 0, [1, 2, 3]), missing(FAR, 0, [1, 2, 3, 4]), counts())
        self.assertEqual(found[4:], [[LIMIT], [ABSENT], [LIMIT], [ABSENT], [0, 2, 0, 0, 2, 0, 0, 7]])

    def test_an_entry_of_just_the_room_drops_all_others(self):
        found = run(room(NEAR, 9), room(FAR, 9), do(0, [1]), do(0, [2]), do(0, [3]), do(0, [1, 2, 3, 4]), counts())
        self.assertEqual(found[-1], [0, 4, 0, 0, 4, 6, 0, 9])

    def test_a_room_of_nothing_keeps_nothing(self):
        found = run(room(NEAR, 0), room(FAR, 0), do(0, []), do(0, []), counts())
        self.assertEqual(found[2:], [[0, 0], [0, 0], [0, 2, 0, 0, 2, 0, 0, 0]])


class FirstRooms(unittest.TestCase):
    def test_both_stores_begin_with_256(self):
        first, second = [1] * 64, [2] * 63
        found = run(do(0, first), do(0, second), counts(), missing(NEAR, 0, first), missing(FAR, 0, first),
                    do(0, []), counts(), missing(NEAR, 0, first), missing(FAR, 0, first))
        # 129 and 127 are just 256; with 1 more the first is dropped from each store.
        self.assertEqual(found[2:5], [[0, 2, 0, 0, 2, 0, 0, 256], [LIMIT], [LIMIT]])
        self.assertEqual(found[6:], [[0, 3, 0, 0, 3, 2, 0, 128], [ABSENT], [ABSENT]])

    def test_1024_is_held_in_full(self):
        # Eight of 127 and one of 8 are just 1024; with 1 more the first is dropped.
        calls = [do(0, [number] * 63) for number in range(8)] + [do(3, [1] * 5)]
        found = run(room(NEAR, 1024), send(0), *calls, counts(), do(0, []), counts())
        self.assertEqual(found[-3], [0, 9, 0, 0, 0, 0, 0, 1024])
        self.assertEqual(found[-1], [0, 10, 0, 0, 0, 1, 0, 1025 - 127])


if __name__ == "__main__":
    unittest.main()
