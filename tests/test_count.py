import unittest
from math import comb

from asking import JUST_ALL, MOST, ONE_TOO_MANY, TWICE_OF_TWO, ask, begin, count, make, sets_by_trying


class Count(unittest.TestCase):
    def test_partitions_of_60(self):
        self.assertEqual(ask(count(0, 60, 0, 60), count(1, 60, 0, 60)), [[966467], [10880]])

    def test_all_small_rows_as_found_by_trying(self):
        for how_many in ([1, 1, 1, 1, 1, 1], TWICE_OF_TWO, [3], [0, 2, 0, 1], [2, 0, 2]):
            for repeats in (0, 1):
                for size in range(0, 7):
                    bounds = [(lo, hi) for lo in range(0, 5) for hi in range(0, 5)]
                    asked = ask(begin(how_many), *[count(repeats, size, lo, hi) for lo, hi in bounds])
                    wanted = [[len(sets_by_trying(how_many, repeats, size, lo, hi))] for lo, hi in bounds]
                    self.assertEqual(asked[1:], wanted, (how_many, repeats, size))

    def test_repeats_0_1_and_above_1(self):
        self.assertEqual(ask(count(0, 4, 0, 9), count(1, 4, 0, 9)), [[5], [2]])
        self.assertEqual(ask(count(2, 4, 0, 9), count(MOST, 4, 0, 9)), [[-1], [-1]])

    def test_sizes_0_60_and_61(self):
        self.assertEqual(ask(count(0, 0, 0, 0), count(1, 0, 0, MOST), count(0, 0, 1, 9)), [[1], [1], [0]])
        self.assertEqual(ask(count(0, 60, 1, 1), count(1, 60, 2, 2)), [[1], [29]])
        self.assertEqual(ask(count(0, 61, 0, 9), count(1, 61, 0, 9), count(0, MOST, 0, 9)), [[-1], [-1], [-1]])

    def test_lo_above_hi_has_no_sets(self):
        self.assertEqual(ask(count(0, 5, 3, 2), count(1, 0, 1, 0), count(0, 5, MOST, 0)), [[0], [0], [0]])

    def test_lo_and_hi_belong_to_what_is_looked_at(self):
        self.assertEqual(ask(count(0, 6, 2, 2), count(0, 6, 3, 3), count(0, 6, 2, 3)), [[3], [3], [6]])

    def test_hi_above_the_number_of_things(self):
        self.assertEqual(ask(begin([3]), count(1, 3, 0, 4), count(1, 3, 0, MOST), count(1, 4, 0, MOST)),
                         [[3], [1], [1], [0]])
        self.assertEqual(ask(begin([3]), count(0, 60, 0, 59), count(0, 60, 0, MOST)), [[3], [0], [comb(62, 2)]])

    def test_lo_above_the_number_of_things(self):
        self.assertEqual(ask(begin([3]), count(1, 3, 4, 9), count(0, 60, 61, MOST), count(0, 60, MOST, MOST)),
                         [[3], [0], [0], [0]])

    def test_60_things_of_size_1(self):
        self.assertEqual(ask(begin([60]), count(1, 30, 0, 60), count(1, 60, 0, 60)), [[60], [comb(60, 30)], [1]])

    def test_10_to_the_18_sets_and_one_more(self):
        self.assertEqual(ask(begin(JUST_ALL), count(0, 60, 0, 60)), [[57], [10 ** 18]])
        self.assertEqual(ask(begin(ONE_TOO_MANY), count(0, 60, 0, 60)), [[58], [-7]])

    def test_only_sets_that_are_looked_at_are_too_many(self):
        self.assertEqual(ask(begin(ONE_TOO_MANY), count(0, 60, 2, MOST), count(0, 60, 0, 1), count(0, 60, 9, 8)),
                         [[58], [10 ** 18], [1], [0]])

    def test_far_too_many(self):
        self.assertEqual(ask(begin([60]), count(0, 60, 0, 60), count(0, 60, 60, 60)), [[60], [-7], [-7]])

    def test_the_one_told_first(self):
        self.assertEqual(ask(begin([60]), count(2, 60, 0, 60), count(2, 61, 0, 60)), [[60], [-1], [-1]])

    def test_refused_leaves_all_as_it_was(self):
        self.assertEqual(ask(begin([60]), count(0, 60, 0, 60), count(2, 1, 0, 1), make(0, 1, 0, 1, 59)),
                         [[60], [-7], [-1], [60, 1, 1, 59]])


if __name__ == "__main__":
    unittest.main()
