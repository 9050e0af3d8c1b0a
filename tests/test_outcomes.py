"""The six tools' outcomes, as do answers them."""

import unittest

from lines import counts, do, failing, last, run

FULL = list(range(255, 191, -1))
MIXED = [9, 0, 255, 9, 0, 1]
PLAIN = [7, 3, 7, 200]
ZEROS = [0] * 64
TOP = [255] * 64


class Outcomes(unittest.TestCase):
    def holds(self, tool, given, status, output):
        self.assertEqual(run(do(tool, given)), [[0, status] + output])
        # What comes from the near store is the same outcome.
        self.assertEqual(run(failing(1), do(tool, given), do(tool, given))[2], [1, status] + output)

    def test_0_is_the_input(self):
        for given in ([], [0], PLAIN, MIXED, FULL, ZEROS, TOP):
            self.holds(0, given, 0, given)

    def test_1_is_the_input_back_to_front(self):
        self.holds(1, [], 0, [])
        self.holds(1, [0], 0, [0])
        self.holds(1, PLAIN, 0, [200, 7, 3, 7])
        self.holds(1, MIXED, 0, [1, 0, 9, 255, 0, 9])
        self.holds(1, FULL, 0, list(range(192, 256)))

    def test_2_is_in_order_of_size_and_like_ones_stay(self):
        self.holds(2, [], 0, [])
        self.holds(2, PLAIN, 0, [3, 7, 7, 200])
        self.holds(2, MIXED, 0, [0, 0, 1, 9, 9, 255])
        self.holds(2, FULL, 0, list(range(192, 256)))
        self.holds(2, ZEROS, 0, ZEROS)
        # As numbers, not as texts.
        self.holds(2, [100, 20, 3], 0, [3, 20, 100])

    def test_3_is_the_sum_in_two_bytes(self):
        self.holds(3, [], 0, [0, 0])
        self.holds(3, [0, 0], 0, [0, 0])
        self.holds(3, PLAIN, 0, [0, 217])
        self.holds(3, MIXED, 0, [1, 18])
        self.holds(3, [255], 0, [0, 255])
        self.holds(3, [255, 1], 0, [1, 0])
        self.holds(3, [255, 255, 2], 0, [2, 0])
        self.holds(3, TOP, 0, [63, 192])
        self.holds(3, FULL, 0, [55, 224])

    def test_4_is_each_byte_twice(self):
        self.holds(4, [], 0, [])
        self.holds(4, [0], 0, [0, 0])
        self.holds(4, PLAIN, 0, [7, 7, 3, 3, 7, 7, 200, 200])
        self.holds(4, TOP, 0, [255] * 128)
        twice = last(do(4, FULL))
        self.assertEqual(len(twice), 2 + 128)
        self.assertEqual((twice[2::2], twice[3::2]), (FULL, FULL))

    def test_5_counts_the_zeros(self):
        self.holds(5, [], 0, [])
        self.holds(5, PLAIN, 0, [])
        self.holds(5, FULL, 0, [])
        self.holds(5, [0], 1, [1])
        self.holds(5, [10, 0, 100], 1, [1])
        self.holds(5, MIXED, 1, [2])
        self.holds(5, ZEROS, 1, [64])
        self.holds(5, [1] + [0] * 62 + [1], 1, [62])

    def test_each_tool_and_each_input_has_an_entry_of_its_own(self):
        calls = [do(tool, given) for tool in range(6) for given in ([], [1], [1, 2], [2, 1], [1, 2, 1])]
        found = run(*(calls + calls + [counts()]))
        self.assertEqual({answer[0] for answer in found[:30]}, {0})
        self.assertEqual([answer[1:] for answer in found[:30]], [answer[1:] for answer in found[30:60]])
        self.assertEqual({answer[0] for answer in found[30:60]}, {1})
        self.assertEqual(found[60][1:7], [30, 30, 0, 30, 0, 0])


if __name__ == "__main__":
    unittest.main()
