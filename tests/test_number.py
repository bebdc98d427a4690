import unittest

from asking import (JUST_ALL, MOST, ONE_TOO_MANY, TWICE_OF_TWO, ask, begin, count, flat, last_answer, number,
                    sets_by_trying)


class Number(unittest.TestCase):
    def test_number_then_size(self):
        self.assertEqual(last_answer(number(0, 0, 9, [1, 0, 1, 0, 2, 0])), [1, 4])
        self.assertEqual(last_answer(number(1, 0, 9, [4, 0])), [1, 4])

    def test_all_small_sets_as_found_by_trying(self):
        for how_many in ([1, 1, 1, 1, 1, 1], TWICE_OF_TWO, [3], [0, 2, 0, 1]):
            for repeats in (0, 1):
                for lo, hi in ((0, 9), (2, 3), (1, 2)):
                    sets = sets_by_trying(how_many, repeats, 6, lo, hi)
                    asked = ask(begin(how_many), *[number(repeats, lo, hi, flat(one)) for one in sets])
                    self.assertEqual(asked[1:], [[k, 6] for k in range(len(sets))])

    def test_first_and_last(self):
        self.assertEqual(ask(number(0, 0, 60, [1, 0] * 60), number(0, 0, 60, [60, 0])), [[0, 60], [966466, 60]])

    def test_the_empty_set(self):
        self.assertEqual(ask(number(0, 0, 0, []), number(1, 0, MOST, []), number(0, 1, 9, [])),
                         [[0, 0], [0, 0], [-3]])

    def test_a_number_left_over(self):
        self.assertEqual(ask(number(0, 0, 9, [1]), number(1, 0, 9, [1, 0, 2]), number(0, 0, MOST, [1, 0] * 511 + [1])),
                         [[-3], [-3], [-3]])

    def test_repeats_above_1(self):
        self.assertEqual(ask(number(2, 0, 9, [1, 0]), number(MOST, 0, 9, [])), [[-1], [-1]])

    def test_a_thing_that_is_not_there(self):
        for thing in ([0, 0], [1, 2], [2, 0], [3, 1], [4, 0], [61, 0], [1, MOST], [MOST, 0]):
            self.assertEqual(last_answer(begin([2, 0, 1]), number(0, 0, 9, thing)), [-3], thing)

    def test_things_out_of_order(self):
        for repeats in (0, 1):
            self.assertEqual(ask(number(repeats, 0, 9, [2, 0, 1, 0]), begin([2]), number(repeats, 0, 9, [1, 1, 1, 0])),
                             [[-3], [2], [-3]])
            self.assertEqual(ask(number(repeats, 0, 9, [1, 0, 3, 0, 2, 0])), [[-3]])

    def test_a_thing_twice(self):
        self.assertEqual(ask(number(0, 0, 9, [1, 0, 1, 0]), number(1, 0, 9, [1, 0, 1, 0])), [[0, 2], [-3]])
        self.assertEqual(ask(number(1, 0, 9, [1, 0, 2, 0, 2, 0])), [[-3]])

    def test_fewer_than_lo_or_more_than_hi(self):
        pair = [1, 0, 2, 0]
        self.assertEqual(ask(number(0, 2, 2, pair), number(0, 3, 9, pair), number(0, 0, 1, pair), number(0, 2, 1, pair),
                             number(0, MOST, MOST, pair), number(0, 0, MOST, pair)),
                         [[0, 3], [-3], [-3], [-3], [-3], [1, 3]])

    def test_sizes_60_and_61(self):
        self.assertEqual(ask(number(1, 0, 60, [29, 0, 31, 0]), number(1, 0, 60, [1, 0, 60, 0])), [[10878, 60], [-1]])
        self.assertEqual(ask(number(0, 0, 99, [1, 0] * 61), number(0, 0, MOST, [60, 0] * 512)), [[-1], [-1]])

    def test_10_to_the_18_sets_and_one_more(self):
        first = [1, 0] * 60
        self.assertEqual(last_answer(begin(JUST_ALL), number(0, 0, 60, first)), [0, 60])
        self.assertEqual(last_answer(begin(ONE_TOO_MANY), number(0, 0, 60, first)), [-7])
        self.assertEqual(last_answer(begin(ONE_TOO_MANY), number(0, 2, 60, first)), [0, 60])

    def test_the_one_told_first(self):
        self.assertEqual(ask(begin([60]),
                             number(2, 0, 60, [1]),
                             number(2, 0, 60, [9, 9]),
                             number(0, 0, 60, [1, 60] + [1, 0] * 60),
                             number(0, 0, 60, [1, 0] * 61),
                             number(0, 0, 61, [1, 0] * 61),
                             number(0, 0, 60, [1, 0] * 60)),
                         [[60], [-3], [-1], [-3], [-3], [-1], [-7]])

    def test_refused_leaves_all_as_it_was(self):
        self.assertEqual(ask(begin([2]), number(0, 0, 9, [1]), number(2, 0, 9, []), number(0, 0, 9, [2, 0]),
                             number(0, 0, 99, [1, 1] * 61), count(0, 1, 0, 9)),
                         [[2], [-3], [-1], [-3], [-1], [2]])


if __name__ == "__main__":
    unittest.main()
