import unittest

from asking import MOST, ask, begin, count, last_answer, listing, number


class Begin(unittest.TestCase):
    def test_row_at_a_lines_beginning_has_one_thing_of_each_size_to_60(self):
        self.assertEqual(ask(*[count(0, size, 1, 1) for size in range(0, 61)]), [[0]] + [[1]] * 60)
        self.assertEqual(last_answer(number(0, 0, 60, [60, 0])), [966466, 60])
        self.assertEqual(last_answer(number(0, 0, 9, [1, 1])), [-3])
        self.assertEqual(last_answer(number(0, 0, 9, [61, 0])), [-3])

    def test_answers_how_many_things(self):
        self.assertEqual(last_answer(begin([2, 0, 3])), [5])
        self.assertEqual(last_answer(begin([])), [0])
        self.assertEqual(last_answer(begin([0, 0])), [0])

    def test_things_are_so_many_of_size_1_of_size_2_and_so_on(self):
        self.assertEqual(last_answer(begin([1, 0, 2]), listing(1, 3, 0, 9)), [2, 1, 3, 0, 1, 3, 1])
        self.assertEqual(last_answer(begin([1, 0, 2]), listing(1, 2, 0, 9)), [0])

    def test_row_without_things_has_the_empty_set_alone(self):
        self.assertEqual(ask(begin([]), listing(0, 0, 0, 0), listing(0, 1, 0, 9), number(1, 0, 0, [])),
                         [[0], [1, 0], [0], [0, 0]])

    def test_comes_again(self):
        self.assertEqual(ask(begin([1]), count(0, 2, 0, 9), begin([0, 3]), count(0, 2, 0, 9), begin([]),
                             count(0, 2, 0, 9)),
                         [[1], [1], [3], [3], [0], [0]])

    def test_60_sizes_and_61(self):
        self.assertEqual(ask(begin([0] * 59 + [2]), count(0, 60, 0, 9)), [[2], [2]])
        self.assertEqual(last_answer(begin([0] * 60)), [0])
        self.assertEqual(last_answer(begin([0] * 61)), [-1])
        self.assertEqual(last_answer(begin([0] * 60 + [1])), [-1])
        self.assertEqual(last_answer(begin([0] * 1024)), [-1])

    def test_60_things_and_61(self):
        self.assertEqual(last_answer(begin([60])), [60])
        self.assertEqual(last_answer(begin([1] * 60)), [60])
        self.assertEqual(last_answer(begin([61])), [-1])
        self.assertEqual(last_answer(begin([30, 0, 31])), [-1])
        self.assertEqual(last_answer(begin([MOST, MOST])), [-1])

    def test_refused_leaves_the_row_as_it_was(self):
        self.assertEqual(ask(begin([61]), count(0, 60, 0, 60)), [[-1], [966467]])
        self.assertEqual(ask(begin([2]), begin([0] * 61), count(0, 1, 0, 9), begin([0, 61]), count(0, 1, 0, 9)),
                         [[2], [-1], [2], [-1], [2]])


if __name__ == "__main__":
    unittest.main()
