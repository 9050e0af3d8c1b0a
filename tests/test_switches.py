"""Points 2 to 4: there, send and failing, on and off."""

import unittest

from lines import ABSENT, FAR, HUGE, LIMIT, NEAR, counts, cut, do, failing, last, missing, room, run, send, there

ZERO = [0, 7]
PLAIN = [1, 2, 3]
WRONG = (-HUGE, -1, 2, 3, 255, HUGE)


class There(unittest.TestCase):
    def test_at_first_the_far_store_is_there(self):
        self.assertEqual(run(do(0, PLAIN), room(NEAR, 0), do(0, PLAIN))[2], [2, 0, 1, 2, 3])

    def test_a_store_that_is_not_there_is_not_asked(self):
        found = run(do(0, PLAIN), room(NEAR, 0), there(0), do(0, PLAIN), there(1), do(0, PLAIN), counts())
        self.assertEqual(found[2:], [[0], [0, 0, 1, 2, 3], [0], [2, 0, 1, 2, 3], [0, 2, 0, 1, 1, 1, 0, 0]])

    def test_a_store_that_is_not_there_is_sent_nothing(self):
        found = run(there(0), do(0, PLAIN), missing(NEAR, 0, PLAIN), missing(FAR, 0, PLAIN), counts())
        self.assertEqual(found[2:], [[LIMIT], [ABSENT], [0, 1, 0, 0, 0, 0, 0, 7]])

    def test_a_cut_entry_is_not_taken_out_of_a_store_that_is_not_there(self):
        found = run(do(0, PLAIN), cut(FAR, 0, 1, PLAIN), room(NEAR, 0), there(0), do(0, PLAIN),
                    missing(FAR, 0, PLAIN), counts(), there(1), do(0, PLAIN), counts())
        self.assertEqual(found[4:7], [[0, 0, 1, 2, 3], [LIMIT], [0, 2, 0, 0, 1, 1, 0, 0]])
        self.assertEqual(found[8:], [[0, 0, 1, 2, 3], [0, 3, 0, 0, 2, 1, 1, 0]])

    def test_what_it_holds_stays(self):
        found = run(do(0, PLAIN), there(0), missing(FAR, 0, PLAIN), there(1), missing(FAR, 0, PLAIN))
        self.assertEqual(found[2:], [[LIMIT], [0], [LIMIT]])

    def test_wrong_truths(self):
        for b in WRONG:
            self.assertEqual(last(there(b)), [LIMIT])
            found = run(there(b), do(0, PLAIN), room(NEAR, 0), do(0, PLAIN))
            self.assertEqual(found[3], [2, 0, 1, 2, 3])
            found = run(there(0), there(b), do(0, PLAIN), missing(FAR, 0, PLAIN))
            self.assertEqual(found[1:], [[LIMIT], [0, 0, 1, 2, 3], [ABSENT]])

    def test_twice_is_as_once(self):
        found = run(there(0), there(0), do(0, [1]), there(1), there(1), do(0, [2]), counts())
        self.assertEqual(found[-1], [0, 2, 0, 0, 1, 0, 0, 6])


class Send(unittest.TestCase):
    def test_at_first_outcomes_are_sent(self):
        self.assertEqual(run(do(0, PLAIN), missing(FAR, 0, PLAIN), counts())[1:],
                         [[LIMIT], [0, 1, 0, 0, 1, 0, 0, 7]])

    def test_off_and_on(self):
        found = run(send(0), do(0, PLAIN), missing(NEAR, 0, PLAIN), missing(FAR, 0, PLAIN), counts(),
                    send(1), do(1, PLAIN), missing(FAR, 1, PLAIN), missing(FAR, 0, PLAIN), counts())
        self.assertEqual(found, [[0], [0, 0, 1, 2, 3], [LIMIT], [ABSENT], [0, 1, 0, 0, 0, 0, 0, 7],
                                 [0], [0, 0, 3, 2, 1], [LIMIT], [ABSENT], [0, 2, 0, 0, 1, 0, 0, 14]])

    def test_the_far_store_is_asked_all_the_same(self):
        found = run(do(0, PLAIN), send(0), room(NEAR, 0), do(0, PLAIN))
        self.assertEqual(found[3], [2, 0, 1, 2, 3])

    def test_a_cut_far_entry_is_taken_out_and_not_sent_anew(self):
        found = run(do(0, PLAIN), room(NEAR, 0), cut(FAR, 0, 0, PLAIN), send(0), do(0, PLAIN),
                    missing(FAR, 0, PLAIN), counts())
        self.assertEqual(found[4:], [[0, 0, 1, 2, 3], [ABSENT], [0, 2, 0, 0, 1, 1, 1, 0]])

    def test_sent_counts_whether_there_is_room_or_not(self):
        found = run(room(FAR, 6), do(0, PLAIN), missing(FAR, 0, PLAIN), counts())
        self.assertEqual(found[2:], [[ABSENT], [0, 1, 0, 0, 1, 0, 0, 7]])

    def test_wrong_truths(self):
        for b in WRONG:
            found = run(send(b), do(0, PLAIN), missing(FAR, 0, PLAIN), send(0), send(b), do(1, PLAIN),
                        missing(FAR, 1, PLAIN))
            self.assertEqual([found[place] for place in (0, 2, 4, 6)], [[LIMIT], [LIMIT], [LIMIT], [ABSENT]])


class Failing(unittest.TestCase):
    def test_at_first_failing_outcomes_are_not_kept(self):
        found = run(do(5, ZERO), do(5, ZERO), missing(NEAR, 5, ZERO), missing(FAR, 5, ZERO), counts())
        self.assertEqual(found, [[0, 1, 1], [0, 1, 1], [ABSENT], [ABSENT], [0, 2, 0, 0, 0, 0, 0, 0]])

    def test_tool_5_without_zeros_is_kept_always(self):
        found = run(do(5, PLAIN), do(5, PLAIN), counts())
        self.assertEqual(found, [[0, 0], [1, 0], [0, 1, 1, 0, 1, 0, 0, 4]])

    def test_on_they_are_kept_in_both_stores(self):
        found = run(failing(1), do(5, ZERO), do(5, ZERO), room(NEAR, 0), do(5, ZERO), counts())
        self.assertEqual(found, [[0], [0, 1, 1], [1, 1, 1], [1], [2, 1, 1], [0, 1, 1, 1, 1, 1, 0, 0]])

    def test_on_with_sending_off_or_the_far_store_away(self):
        for switch in (send(0), there(0)):
            found = run(failing(1), switch, do(5, ZERO), missing(NEAR, 5, ZERO), missing(FAR, 5, ZERO), counts())
            self.assertEqual(found[2:], [[0, 1, 1], [LIMIT], [ABSENT], [0, 1, 0, 0, 0, 0, 0, 4]])

    def test_off_again_what_is_kept_stays(self):
        found = run(failing(1), do(5, ZERO), failing(0), do(5, ZERO), do(5, [0]), do(5, [0]),
                    missing(FAR, 5, ZERO), counts())
        self.assertEqual(found[2:], [[0], [1, 1, 1], [0, 1, 1], [0, 1, 1], [LIMIT], [0, 3, 1, 0, 1, 0, 0, 4]])

    def test_off_again_a_failing_far_entry_is_still_kept_in_the_near_store(self):
        found = run(failing(1), room(NEAR, 0), do(5, ZERO), failing(0), room(NEAR, 10), do(5, ZERO), do(5, ZERO))
        self.assertEqual(found[5:], [[2, 1, 1], [1, 1, 1]])

    def test_off_again_a_spoilt_failing_entry_is_not_kept_anew(self):
        found = run(failing(1), do(5, ZERO), failing(0), cut(NEAR, 5, 0, ZERO), cut(FAR, 5, 0, ZERO), do(5, ZERO),
                    missing(NEAR, 5, ZERO), missing(FAR, 5, ZERO), counts())
        self.assertEqual(found[5:], [[0, 1, 1], [ABSENT], [ABSENT], [0, 2, 0, 0, 1, 0, 2, 0]])

    def test_wrong_truths(self):
        for b in WRONG:
            found = run(failing(b), do(5, ZERO), missing(NEAR, 5, ZERO), failing(1), failing(b), do(5, ZERO),
                        missing(NEAR, 5, ZERO))
            self.assertEqual([found[place] for place in (0, 2, 4, 6)], [[LIMIT], [ABSENT], [LIMIT], [LIMIT]])


if __name__ == "__main__":
    unittest.main()
