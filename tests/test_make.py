import unittest

from asking import (JUST_ALL, MOST, ONE_TOO_MANY, TWICE_OF_TWO, ask, begin, count, last_answer, make,
                    sets_by_trying, told)


class Make(unittest.TestCase):
    def test_how_many_sets_then_the_set(self):
        self.assertEqual(last_answer(make(0, 4, 0, 9, 1)), [5, 3, 1, 0, 1, 0, 2, 0])
        self.assertEqual(last_answer(make(1, 4, 0, 9, 0)), [2, 2, 1, 0, 3, 0])

    def test_all_small_sets_as_found_by_trying(self):
        for how_many in ([1, 1, 1, 1, 1, 1], TWICE_OF_TWO, [3], [0, 2, 0, 1]):
            for repeats in (0, 1):
                for lo, hi in ((0, 9), (2, 3), (1, 2)):
                    wanted = sets_by_trying(how_many, repeats, 6, lo, hi)
                    asked = ask(begin(how_many), *[make(repeats, 6, lo, hi, k) for k in range(len(wanted) + 1)])
                    self.assertEqual(asked[1:-1], [[len(wanted)] + told(one) for one in wanted])
                    self.assertEqual(asked[-1], [-3])

    def test_first_last_and_one_past_the_last(self):
        self.assertEqual(ask(make(0, 60, 0, 60, 0), make(0, 60, 0, 60, 966466), make(0, 60, 0, 60, 966467)),
                         [[966467, 60] + [1, 0] * 60, [966467, 1, 60, 0], [-3]])
        self.assertEqual(ask(make(0, 60, 0, 60, MOST)), [[-3]])

    def test_things_of_one_size_by_their_numbers(self):
        self.assertEqual(ask(begin([3]), make(0, 2, 0, 9, 1), make(1, 2, 0, 9, 2)),
                         [[3], [6, 2, 1, 0, 1, 1], [3, 2, 1, 1, 1, 2]])

    def test_the_empty_set(self):
        self.assertEqual(ask(make(0, 0, 0, 0, 0), make(1, 0, 0, MOST, 0), make(0, 0, 0, 0, 1), make(0, 0, 1, 9, 0)),
                         [[1, 0], [1, 0], [-3], [-3]])

    def test_lo_above_hi_has_no_set(self):
        self.assertEqual(ask(make(0, 5, 3, 2, 0)), [[-3]])

    def test_wrong_repeats_and_sizes(self):
        self.assertEqual(ask(make(2, 5, 0, 9, 0), make(0, 61, 0, 99, 0), make(1, MOST, 0, 9, 0)),
                         [[-1], [-1], [-1]])

    def test_10_to_the_18_sets_and_one_more(self):
        self.assertEqual(ask(begin(JUST_ALL), make(0, 60, 0, 60, 10 ** 18 - 1), make(0, 60, 0, 60, 10 ** 18)),
                         [[57], [10 ** 18, 2, 28, 0, 32, 0], [-3]])
        self.assertEqual(last_answer(begin(ONE_TOO_MANY), make(0, 60, 0, 60, 0)), [-7])

    def test_the_one_told_first(self):
        self.assertEqual(ask(begin([60]), make(2, 60, 0, 60, MOST), make(0, 61, 0, 60, MOST),
                             make(0, 60, 0, 60, MOST)),
                         [[60], [-1], [-1], [-7]])

    def test_refused_leaves_all_as_it_was(self):
        self.assertEqual(ask(begin([2]), make(0, 1, 0, 9, 2), make(2, 1, 0, 9, 0), count(0, 1, 0, 9)),
                         [[2], [-3], [-1], [2]])


if __name__ == "__main__":
    unittest.main()
