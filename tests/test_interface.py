"""Point 12, the document's example, and answers itself: what goes in, what comes out."""

import unittest

from actioncaches.stores import answers
from lines import (FAR, NEAR, apart, clean, counts, cut, do, failing, forget, has, line, listing, room, run, send,
                   share, there)

GIVEN = [1, 2, 3]
EXAMPLE = [do(1, GIVEN), do(1, GIVEN), cut(NEAR, 1, 2, GIVEN), do(1, GIVEN), there(0), room(NEAR, 6), do(1, GIVEN),
           counts(), do(5, [0, 7]), has(NEAR, 5, [0, 7])]


class Counts(unittest.TestCase):
    def test_a_new_object(self):
        self.assertEqual(run(counts()), [[0, 0, 0, 0, 0, 0, 0, 0]])

    def test_counting_changes_nothing(self):
        found = run(do(0, GIVEN), counts(), counts(), do(0, GIVEN), counts())
        self.assertEqual(found[1:], [[0, 1, 0, 0, 1, 0, 0, 7], [0, 1, 0, 0, 1, 0, 0, 7], [1, 0, 1, 2, 3],
                                     [0, 1, 1, 0, 1, 0, 0, 7]])

    def test_each_number_in_its_place(self):
        # 6 worked, 5 from near, 3 from far, 4 sent, 8 dropped, 2 spoilt, a load of 3.
        calls = [do(0, [1]), do(0, [2]), do(0, [3]), do(0, [4])]
        calls += [do(0, [1])] * 5
        calls += [room(NEAR, 0), room(NEAR, 3), do(0, [1]), do(0, [2]), do(0, [3])]
        calls += [send(0), cut(NEAR, 0, 0, [3]), cut(FAR, 0, 0, [3]), do(0, [3]), do(1, [9]), room(FAR, 6), counts()]
        found = run(*calls)
        self.assertEqual(found[9:14], [[4], [0], [2, 0, 1], [2, 0, 2], [2, 0, 3]])
        self.assertEqual(found[17:], [[0, 0, 3], [0, 0, 9], [1], [0, 6, 5, 3, 4, 8, 2, 3]])

    def test_forget_is_not_counted(self):
        found = run(do(0, [1]), do(0, [2]), cut(NEAR, 0, 0, [2]), forget(NEAR, 0, [1]), counts(),
                    forget(NEAR, 0, [2]), forget(FAR, 0, [2]), counts())
        self.assertEqual((found[4], found[7]), ([0, 2, 0, 0, 2, 0, 0, 3], [0, 2, 0, 0, 2, 0, 0, 0]))

    def test_clean_is_counted_as_spoilt(self):
        found = run(do(0, [1]), do(0, [2]), cut(NEAR, 0, 0, [2]), cut(FAR, 0, 0, [1]), cut(FAR, 0, 0, [2]),
                    clean(NEAR), counts(), clean(FAR), counts())
        self.assertEqual((found[6], found[8]), ([0, 2, 0, 0, 2, 0, 1, 3], [0, 2, 0, 0, 2, 0, 3, 3]))

    def test_share_is_counted_as_sent_and_what_goes_for_it_as_dropped(self):
        found = run(room(FAR, 3), send(0), do(0, [1]), do(0, [2]), do(0, [3, 3]), share(), counts())
        # The one of size 5 has no room in the far store and is sent all the same.
        self.assertEqual(found[5:], [[3], [0, 3, 0, 0, 3, 1, 0, 11]])

    def test_has_and_list_are_not_counted(self):
        found = run(do(0, [1]), cut(NEAR, 0, 0, [1]), has(NEAR, 0, [1]), has(FAR, 0, [1]), listing(NEAR),
                    listing(FAR), counts())
        self.assertEqual(found[6], [0, 1, 0, 0, 1, 0, 0, 3])

    def test_the_load_is_the_near_store_s(self):
        found = run(do(0, GIVEN), room(FAR, 0), counts(), do(0, [1]), room(NEAR, 0), counts())
        self.assertEqual((found[2][7], found[5][7]), (7, 0))

    def test_dropped_by_keeping_counts_for_both_stores(self):
        found = run(room(NEAR, 3), room(FAR, 6), do(0, [1]), do(0, [2]), do(0, [3]), counts())
        self.assertEqual(found[5], [0, 3, 0, 0, 3, 3, 0, 3])


class Example(unittest.TestCase):
    def test_the_document_s_own(self):
        self.assertEqual(run(*EXAMPLE), [[0, 0, 3, 2, 1], [1, 0, 3, 2, 1], [0], [2, 0, 3, 2, 1], [0], [1],
                                         [0, 0, 3, 2, 1], [0, 2, 1, 1, 1, 1, 1, 0], [0, 1, 1], [0]])

    def test_the_document_s_own_number_by_number(self):
        self.assertEqual(answers([4, 1, 3, 1, 2, 3,
                                  4, 1, 3, 1, 2, 3,
                                  5, 0, 1, 2, 3, 1, 2, 3,
                                  4, 1, 3, 1, 2, 3,
                                  1, 0,
                                  0, 0, 6,
                                  4, 1, 3, 1, 2, 3,
                                  11,
                                  4, 5, 2, 0, 7,
                                  9, 0, 5, 2, 0, 7]),
                         [5, 0, 0, 3, 2, 1,
                          5, 1, 0, 3, 2, 1,
                          1, 0,
                          5, 2, 0, 3, 2, 1,
                          1, 0,
                          1, 1,
                          5, 0, 0, 3, 2, 1,
                          8, 0, 2, 1, 1, 1, 1, 1, 0,
                          3, 0, 1, 1,
                          1, 0])

    def test_number_by_number(self):
        self.assertEqual(answers([4, 1, 3, 1, 2, 3, 5, 0, 1, 2, 3, 1, 2, 3, 4, 1, 3, 1, 2, 3, 1, 0, 0, 0, 6, 11]),
                         [5, 0, 0, 3, 2, 1, 1, 0, 5, 2, 0, 3, 2, 1, 1, 0, 1, 1, 8, 0, 1, 0, 1, 1, 1, 1, 0])


class Handed(unittest.TestCase):
    def test_each_call_alone(self):
        self.assertEqual(answers([0, 0, 5]), [1, 0])
        self.assertEqual(answers([1, 1]), [1, 0])
        self.assertEqual(answers([2, 1]), [1, 0])
        self.assertEqual(answers([3, 1]), [1, 0])
        self.assertEqual(answers([4, 0, 0]), [2, 0, 0])
        self.assertEqual(answers([5, 0, 0, 0, 0]), [1, -5])
        self.assertEqual(answers([6, 0, 0, 0]), [1, -5])
        self.assertEqual(answers([7, 1]), [1, 0])
        self.assertEqual(answers([8]), [1, 0])
        self.assertEqual(answers([9, 1, 5, 2, 0, 7]), [1, 0])
        self.assertEqual(answers([10, 1]), [1, 0])
        self.assertEqual(answers([11]), [8, 0, 0, 0, 0, 0, 0, 0, 0])

    def test_a_refusal_is_its_number_alone(self):
        self.assertEqual(answers([0, 2, 0]), [1, -4])
        self.assertEqual(answers([0, 0, -1]), [1, -1])
        self.assertEqual(answers([4, 6, 1, 5]), [1, -2])
        self.assertEqual(answers([4, 0, 1, 256]), [1, -3])
        self.assertEqual(answers([6, 0, 1, 1, 3]), [1, -5])
        self.assertEqual(answers([7, 2]), [1, -4])
        self.assertEqual(answers([1, 0, 8]), [1, 0, 1, -1])
        self.assertEqual(answers([9, 0, 6, 1, 3]), [1, -2])
        self.assertEqual(answers([10, -1]), [1, -4])

    def test_calls_behind_refused_rows_are_read_from_the_right_place(self):
        found = run(do(0, [11] * 100), do(9, [4] * 64), cut(0, 0, 0, [5] * 65), cut(7, 0, 0, [1] * 3),
                    forget(0, 0, [8] * 100), forget(9, 9, []), has(1, 1, [10] * 99), has(1, 8, [7] * 2), counts())
        self.assertEqual(found, [[-3], [-2], [-3], [-4], [-3], [-4], [-3], [-2], [0] * 8])

    def test_what_is_handed_in_stays(self):
        for calls in (EXAMPLE, [do(2, [3, 1, 2]), cut(NEAR, 2, 1, [3, 1, 2]), do(0, [1] * 65), room(2, 2)]):
            handed = line(calls)
            answers(handed)
            self.assertEqual(handed, line(calls))

    def test_a_second_calling_answers_as_the_first(self):
        handed = line([failing(1), send(0), there(0), room(NEAR, 9), room(FAR, 0)] + EXAMPLE)
        first = answers(handed)
        self.assertEqual(answers(handed), first)
        self.assertEqual(run(*EXAMPLE), apart(answers(line(EXAMPLE))))

    def test_what_is_given_back_is_the_caller_s(self):
        first = answers(line(EXAMPLE))
        kept = list(first)
        first.append(7)
        self.assertEqual(answers(line(EXAMPLE)), kept)
        self.assertIsNot(answers(line(EXAMPLE)), answers(line(EXAMPLE)))

    def test_whole_numbers_alone_are_given_back(self):
        told = answers(line(EXAMPLE + [failing(1), there(1), do(5, [0]), room(FAR, 0), room(5, 0), counts()]))
        self.assertIs(type(told), list)
        self.assertEqual({type(number) for number in told}, {int})

    def test_a_line_as_long_as_may_be(self):
        calls = [do(4, [number % 256] + [1] * 36) for number in range(400)]
        handed = line(calls)
        self.assertEqual(len(handed), 16000)
        found = run(*calls)
        self.assertEqual(len(found), 400)
        for call, answer in zip(calls, found):
            self.assertEqual(answer[1:], [0, call[3], call[3]] + [1] * 72)


if __name__ == "__main__":
    unittest.main()
