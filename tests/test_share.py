"""Point 9: share, what it sends, in which order, and what is dropped for it."""

import unittest

from lines import (FAR, LIMIT, NEAR, clean, counts, cut, do, failing, forget, has, last, listing, order, room, run,
                   send, share, there)

A, B, C, D = (0, [1]), (0, [2]), (0, [3]), (0, [4])
BIG = (0, [9, 9, 9])


def dos(*actions):
    return [do(tool, given) for tool, given in actions]


class Share(unittest.TestCase):
    def test_an_empty_near_store(self):
        self.assertEqual(run(share(), counts()), [[0], [0] * 8])
        found = run(do(0, [1]), forget(NEAR, 0, [1]), share(), has(FAR, 0, [1]), counts())
        self.assertEqual(found[2:], [[0], [1, 0], [0, 1, 0, 0, 1, 0, 0, 0]])

    def test_all_are_sent_and_the_far_order_is_the_near_one(self):
        found = run(send(0), *dos(A, B, C), share(), *order(NEAR, (A, B, C)), *order(FAR, (A, B, C)), counts())
        self.assertEqual(found[4:], [[3], [1, 2], [1, 1], [1, 0], [1, 2], [1, 1], [1, 0], [0, 3, 0, 0, 3, 0, 0, 9]])

    def test_the_order_is_that_of_use(self):
        found = run(send(0), *dos(A, B, C, A), share(), *order(FAR, (A, B, C)))
        self.assertEqual(found[5:], [[3], [1, 0], [1, 2], [1, 1]])

    def test_what_the_far_store_has_stays_where_it_is(self):
        # B alone is there; A and C come ahead of it.
        found = run(do(*B), send(0), *dos(A, C), share(), *order(FAR, (A, B, C)), counts())
        self.assertEqual(found[4:], [[2], [1, 1], [1, 2], [1, 0], [0, 3, 0, 0, 3, 0, 0, 9]])

    def test_what_both_have_is_not_sent(self):
        found = run(*dos(A, B), share(), *order(FAR, (A, B)), counts())
        self.assertEqual(found[2:], [[0], [1, 1], [1, 0], [0, 2, 0, 0, 2, 0, 0, 6]])

    def test_the_second_time_there_is_nothing(self):
        found = run(send(0), *dos(A, B), share(), share(), counts())
        self.assertEqual(found[3:], [[2], [0], [0, 2, 0, 0, 2, 0, 0, 6]])

    def test_a_cut_near_entry_is_not_sent_and_stays(self):
        found = run(send(0), *dos(A, B, C), cut(NEAR, 0, 0, [2]), share(), *order(FAR, (A, B, C)),
                    *order(NEAR, (A, B, C)), counts())
        self.assertEqual(found[5:], [[2], [1, 1], [0], [1, 0], [1, 2], [2, 1], [1, 0], [0, 3, 0, 0, 2, 0, 0, 9]])

    def test_a_cut_far_entry_is_an_entry(self):
        found = run(*dos(A, B), cut(FAR, 0, 0, [1]), share(), *order(FAR, (A, B)), counts())
        self.assertEqual(found[3:], [[0], [2, 1], [1, 0], [0, 2, 0, 0, 2, 0, 0, 6]])
        found = run(*dos(A, B), cut(FAR, 0, 0, [1]), clean(FAR), share(), *order(FAR, (A, B)))
        self.assertEqual(found[3:], [[1], [1], [1, 0], [1, 1]])

    def test_a_near_entry_cut_to_all_its_bytes_or_without_any_is_sent(self):
        found = run(send(0), do(0, [1]), do(5, [1]), cut(NEAR, 0, 1, [1]), cut(NEAR, 5, 0, [1]), share(),
                    listing(FAR))
        self.assertEqual(found[5:], [[2], [0, 5, 0, 0, 0, 1, 0, 0, 1, 1, 1]])

    def test_sending_may_be_switched_off(self):
        self.assertEqual(run(send(0), do(*A), share(), has(FAR, *A))[2:], [[1], [1, 0]])

    def test_what_was_done_while_the_far_store_was_away(self):
        found = run(there(0), *dos(A, B), there(1), do(*C), share(), *order(FAR, (A, B, C)), counts())
        self.assertEqual(found[5:], [[2], [1, 1], [1, 0], [1, 2], [0, 3, 0, 0, 3, 0, 0, 9]])

    def test_a_failing_entry_that_is_kept_is_sent(self):
        for switch in (0, 1):
            found = run(send(0), failing(1), do(5, [0, 7]), failing(switch), share(), listing(FAR),
                        forget(NEAR, 5, [0, 7]), do(5, [0, 7]))
            self.assertEqual(found[4:], [[1], [0, 5, 1, 1, 1, 2], [0], [2, 1, 1]])

    def test_what_was_sent_answers_as_working_would(self):
        for tool in range(6):
            given = [200, 1, 100]
            found = run(send(0), do(tool, given), share(), forget(NEAR, tool, given), do(tool, given))
            self.assertEqual(found[4], [2] + found[1][1:])

    def test_the_two_stores_do_not_share_an_entry(self):
        found = run(send(0), do(*BIG), share(), cut(NEAR, 0, 1, [9, 9, 9]), has(FAR, *BIG), has(NEAR, *BIG))
        self.assertEqual(found[3:], [[0], [1, 0], [2, 0]])
        found = run(send(0), do(*BIG), share(), cut(FAR, 0, 1, [9, 9, 9]), has(FAR, *BIG), has(NEAR, *BIG))
        self.assertEqual(found[3:], [[0], [2, 0], [1, 0]])

    def test_the_near_store_stays_as_it_is(self):
        calls = [send(0), *dos(A, BIG, B), cut(NEAR, 0, 0, [2]), room(FAR, 3), listing(NEAR), share(), listing(NEAR)]
        found = run(*calls)
        self.assertEqual(found[6], found[8])
        self.assertEqual(found[6], [0, 0, 0, 1, 0, 1, 0, 0, 3, 3, 3, 0, 0, 1, 1, 1])


class Room(unittest.TestCase):
    def test_too_large_for_the_room_is_sent_and_not_kept(self):
        found = run(room(FAR, 6), do(*A), send(0), do(*BIG), share(), share(), has(FAR, *A), has(FAR, *BIG),
                    counts())
        self.assertEqual(found[4:], [[1], [1], [1, 0], [0], [0, 2, 0, 0, 3, 0, 0, 10]])

    def test_just_the_room(self):
        found = run(room(FAR, 7), send(0), do(*BIG), share(), has(FAR, *BIG), share(), counts())
        self.assertEqual(found[3:], [[1], [1, 0], [0], [0, 1, 0, 0, 1, 0, 0, 7]])

    def test_a_room_of_nothing(self):
        found = run(room(FAR, 0), send(0), *dos(A, B), do(0, []), share(), listing(FAR), counts())
        self.assertEqual(found[5:], [[3], [0], [0, 3, 0, 0, 3, 0, 0, 7]])

    def test_others_are_dropped_from_the_far_store(self):
        # The far store has A and B, the near one C and D; there's room for three.
        calls = [room(FAR, 9), *dos(A, B), forget(NEAR, *A), forget(NEAR, *B), send(0), *dos(C, D), share()]
        found = run(*calls, *order(FAR, (A, B, C, D)), counts())
        self.assertEqual(found[8:], [[2], [0], [1, 2], [1, 1], [1, 0], [0, 4, 0, 0, 4, 1, 0, 6]])

    def test_several_are_dropped_for_one(self):
        calls = [room(FAR, 9), *dos(A, B, C), forget(NEAR, *A), forget(NEAR, *B), forget(NEAR, *C), send(0),
                 do(*BIG), share()]
        found = run(*calls, *order(FAR, (A, B, C, BIG)), counts())
        self.assertEqual(found[9:], [[1], [0], [0], [0], [1, 0], [0, 4, 0, 0, 4, 3, 0, 7]])

    def test_a_cut_far_entry_is_dropped_and_not_spoilt(self):
        calls = [room(FAR, 3), do(*A), cut(FAR, 0, 0, [1]), send(0), do(*B), share()]
        found = run(*calls, *order(FAR, (A, B)), counts())
        # A is gone through first, while its cut entry is there; B then drops that one.
        self.assertEqual(found[5:], [[1], [0], [1, 0], [0, 2, 0, 0, 2, 1, 0, 6]])

    def test_what_is_sent_drops_what_was_sent_just_before(self):
        found = run(room(FAR, 3), send(0), *dos(A, B, C), share(), *order(FAR, (A, B, C)), counts())
        self.assertEqual(found[5:], [[3], [0], [0], [1, 0], [0, 3, 0, 0, 3, 2, 0, 9]])

    def test_dropped_and_come_upon_later_it_is_sent_again(self):
        # Near, from the front: A, B. The far store has A alone and room for one. B comes first and drops A;
        # then the far store has no entry for A.
        calls = [room(FAR, 3), do(*A), send(0), do(*B), do(*A), share()]
        found = run(*calls, *order(FAR, (A, B)), counts())
        self.assertEqual(found[4:], [[1, 0, 1], [2], [1, 0], [0], [0, 2, 1, 0, 3, 2, 0, 6]])

    def test_dropped_and_come_upon_later_with_room_for_two(self):
        # Near, from the front: A, B, C, D. The far store, from the front: B, A. D drops A, C drops B,
        # then B drops D and A drops C.
        calls = [room(FAR, 6), *dos(A, B), send(0), *dos(D, C, B, A), share()]
        found = run(*calls, *order(FAR, (A, B, C, D)), counts())
        self.assertEqual(found[8:], [[4], [1, 0], [1, 1], [0], [0], [0, 4, 2, 0, 6, 4, 0, 12]])

    def test_dropped_when_it_was_gone_through_already_it_is_gone(self):
        # Near, from the front: B, A. A is there when it is gone through; B then drops it.
        found = run(room(FAR, 3), do(*A), send(0), do(*B), share(), *order(FAR, (A, B)), counts())
        self.assertEqual(found[4:], [[1], [0], [1, 0], [0, 2, 0, 0, 2, 1, 0, 6]])

    def test_dropped_and_cut_in_the_near_store_it_is_not_sent(self):
        calls = [room(FAR, 3), do(*A), send(0), do(*B), do(*A), cut(NEAR, 0, 0, [1]), share()]
        found = run(*calls, *order(FAR, (A, B)), counts())
        self.assertEqual(found[6:], [[1], [0], [1, 0], [0, 2, 1, 0, 2, 1, 0, 6]])


class Refused(unittest.TestCase):
    def test_while_the_far_store_is_not_there(self):
        found = run(send(0), *dos(A, B), there(0), share(), listing(FAR), counts(), there(1), share(), listing(FAR))
        self.assertEqual(found[4:], [[LIMIT], [0], [0, 2, 0, 0, 0, 0, 0, 6], [0], [2],
                                     [0, 0, 0, 1, 1, 1, 0, 0, 1, 1, 1]])

    def test_refused_with_nothing_to_send_too(self):
        self.assertEqual(last(there(0), share()), [LIMIT])
        self.assertEqual(last(do(*A), there(0), share()), [LIMIT])

    def test_refused_leaves_everything_as_it_was(self):
        made = [room(FAR, 6), *dos(A, B), send(0), *dos(C, D), cut(NEAR, 0, 0, [3]), cut(FAR, 0, 0, [1]), there(0)]
        asked = [listing(NEAR), listing(FAR), counts(), do(*A), do(*C), there(1), do(*B), listing(FAR), counts()]
        found = run(*made, share(), *asked)
        self.assertEqual(found[len(made)], [LIMIT])
        self.assertEqual(found[len(made) + 1:], run(*made, *asked)[len(made):])


if __name__ == "__main__":
    unittest.main()
