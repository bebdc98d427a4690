import unittest

from asking import (JUST_ALL, MOST, ONE_TOO_MANY, TWICE_OF_TWO, TWO_HUNDRED, ask, begin, count, last_answer,
                    listing, sets_by_trying, told)


def listed(how_many, repeats, size, lo, hi):
    sets = sets_by_trying(how_many, repeats, size, lo, hi)
    return [len(sets)] + [each for one in sets for each in told(one)]


class Listing(unittest.TestCase):
    def test_how_many_then_each_in_order(self):
        self.assertEqual(last_answer(listing(0, 3, 0, 9)), [3, 3, 1, 0, 1, 0, 1, 0, 2, 1, 0, 2, 0, 1, 3, 0])
        self.assertEqual(last_answer(begin([2, 1]), listing(1, 2, 0, 9)), [2, 2, 1, 0, 1, 1, 1, 2, 0])

    def test_small_rows_as_found_by_trying(self):
        for how_many in ([1, 1, 1, 1, 1, 1, 1], TWICE_OF_TWO, [3], [0, 2, 0, 1], [2, 0, 2]):
            for repeats in (0, 1):
                for size in range(0, 8):
                    for lo, hi in ((0, 9), (2, 3), (1, 1), (3, 2)):
                        self.assertEqual(last_answer(begin(how_many), listing(repeats, size, lo, hi)),
                                         listed(how_many, repeats, size, lo, hi))

    def test_no_sets_and_the_empty_set(self):
        self.assertEqual(ask(listing(0, 5, 3, 2), listing(0, 0, 1, 9), listing(0, 0, 0, 0), listing(1, 0, 0, MOST)),
                         [[0], [0], [1, 0], [1, 0]])

    def test_200_sets_and_more(self):
        self.assertEqual(last_answer(begin(TWO_HUNDRED), listing(1, 3, 2, 2)), listed(TWO_HUNDRED, 1, 3, 2, 2))
        self.assertEqual(ask(begin(TWO_HUNDRED), count(1, 3, 2, 2), count(1, 3, 1, 2), listing(1, 3, 1, 2)),
                         [[31], [200], [201], [-5]])
        self.assertEqual(last_answer(listing(0, 60, 0, 60)), [-5])

    def test_wrong_repeats_and_sizes(self):
        self.assertEqual(ask(listing(2, 5, 0, 9), listing(0, 61, 0, 1), listing(1, MOST, 0, 9)), [[-1], [-1], [-1]])

    def test_10_to_the_18_sets_and_one_more(self):
        self.assertEqual(last_answer(begin(JUST_ALL), listing(0, 60, 0, 60)), [-5])
        self.assertEqual(last_answer(begin(ONE_TOO_MANY), listing(0, 60, 0, 60)), [-7])

    def test_the_one_told_first(self):
        self.assertEqual(ask(begin([60]), listing(2, 60, 0, 60), listing(0, 61, 0, 60), listing(0, 60, 0, 60)),
                         [[60], [-1], [-1], [-7]])

    def test_refused_leaves_all_as_it_was(self):
        self.assertEqual(ask(begin([20, 10]), listing(1, 4, 0, 9), listing(2, 4, 0, 9), count(1, 1, 0, 9)),
                         [[30], [-5], [-1], [20]])


if __name__ == "__main__":
    unittest.main()
