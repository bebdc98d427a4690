"""turn, odd, once and diagonal, call by call: ordinary partitions, the edges, and what is refused."""

import unittest

from asking import MOST, ask, ask_all, begin, count, diagonal, odd, once, partitions_of, turn
from plainly import by_the_cells, cells_turned, halved, joined

FOUR = (turn, odd, once, diagonal)

NO_PARTITIONS = {
    "a part 0": [0],
    "a part 0 at the end": [3, 0],
    "a part 0 ahead": [0, 3],
    "a part 0 between": [5, 0, 3],
    "zeros alone": [0] * 1024,
    "the greatest not first": [1, 3],
    "later ones not in order": [7, 1, 3],
    "together 61 in one part": [61],
    "together 61 in different parts": [31, 29, 1],
    "together 61 in ones": [1] * 61,
    "a part as great as can be": [MOST],
    "several such": [MOST, MOST, MOST],
    "such a one behind": [1, MOST],
    "1024 parts": [1] * 1024,
    "1024 great parts": [MOST] * 1024,
    "60 ones and a 0": [1] * 60 + [0],
}


class Turn(unittest.TestCase):
    def test_how_many_parts_then_these(self):
        self.assertEqual(ask(turn([4, 2, 1]), turn([5, 5]), turn([3, 3, 3]), turn([3, 1, 1])),
                         [[4, 3, 2, 1, 1], [5, 2, 2, 2, 2, 2], [3, 3, 3, 3], [3, 3, 1, 1]])

    def test_one_part_and_parts_1(self):
        self.assertEqual(ask(turn([1]), turn([6]), turn([1] * 6)), [[1, 1], [6] + [1] * 6, [1, 6]])

    def test_together_60(self):
        self.assertEqual(ask(turn([60]), turn([1] * 60), turn([30, 30]), turn([58, 1, 1])),
                         [[60] + [1] * 60, [1, 60], [30] + [2] * 30, [58, 3] + [1] * 57])

    def test_all_small_ones_by_their_cells(self):
        for size in range(0, 13):
            asked = ask_all([turn(parts) for parts in partitions_of(size)])
            wanted = [cells_turned(parts) for parts in partitions_of(size)]
            self.assertEqual(asked, [[len(parts)] + parts for parts in wanted])


class Odd(unittest.TestCase):
    def test_how_many_parts_then_these_the_greatest_first(self):
        self.assertEqual(ask(odd([5, 3, 1]), odd([6, 4, 3]), odd([4, 3]), odd([12, 5])),
                         [[3, 5, 3, 1], [7, 3, 3, 3, 1, 1, 1, 1], [5, 3, 1, 1, 1, 1], [5, 5, 3, 3, 3, 3]])

    def test_one_part(self):
        self.assertEqual(ask(odd([1]), odd([2]), odd([7]), odd([8]), odd([32])),
                         [[1, 1], [2, 1, 1], [1, 7], [8] + [1] * 8, [32] + [1] * 32])

    def test_together_60(self):
        self.assertEqual(ask(odd([60]), odd([59, 1]), odd([32, 28]), odd([15, 9, 8, 7, 6, 5, 4, 3, 2, 1])),
                         [[4] + [15] * 4, [2, 59, 1], [36] + [7] * 4 + [1] * 32,
                          [22, 15, 9, 7, 5, 3, 3, 3] + [1] * 15])

    def test_a_part_comes_twice(self):
        self.assertEqual(ask(odd([1, 1]), odd([5, 3, 3]), odd([4, 4, 1]), odd([7, 5, 5, 2]), odd([30, 30]),
                             odd([1] * 60), odd([3, 3, 3])),
                         [[-4]] * 7)

    def test_no_partition_is_told_before_a_part_that_comes_twice(self):
        self.assertEqual(ask(odd([0, 0]), odd([3, 3, 0]), odd([1, 3, 3]), odd([31, 31]), odd([1] * 61),
                             odd([MOST, MOST])),
                         [[-3]] * 6)

    def test_an_even_part_is_none_of_its_refusals(self):
        self.assertEqual(ask(odd([4, 2])), [[6, 1, 1, 1, 1, 1, 1]])

    def test_all_small_ones_by_halving(self):
        for size in range(0, 16):
            whole = partitions_of(size)
            wanted = [[len(halved(parts))] + halved(parts) if len(set(parts)) == len(parts) else [-4]
                      for parts in whole]
            self.assertEqual(ask_all([odd(parts) for parts in whole]), wanted)


class Once(unittest.TestCase):
    def test_how_many_parts_then_these_the_greatest_first(self):
        self.assertEqual(ask(once([5, 3, 1]), once([3, 3, 3, 1, 1, 1, 1]), once([3, 1, 1, 1, 1]),
                             once([5, 5, 3, 3, 3, 1, 1, 1])),
                         [[3, 5, 3, 1], [3, 6, 4, 3], [2, 4, 3], [5, 10, 6, 3, 2, 1]])

    def test_one_part(self):
        self.assertEqual(ask(once([1]), once([7]), once([59])), [[1, 1], [1, 7], [1, 59]])

    def test_together_60(self):
        self.assertEqual(ask(once([1] * 60), once([15] * 4), once([59, 1]), once([3] * 20)),
                         [[4, 32, 16, 8, 4], [1, 60], [2, 59, 1], [2, 48, 12]])

    def test_a_part_is_even(self):
        self.assertEqual(ask(once([2]), once([3, 2]), once([4, 3, 1]), once([5, 4, 3]), once([60]), once([2] * 30)),
                         [[-4]] * 6)

    def test_no_partition_is_told_before_an_even_part(self):
        self.assertEqual(ask(once([0]), once([2, 0]), once([1, 2]), once([62]), once([2] * 31), once([MOST - 1])),
                         [[-3]] * 6)

    def test_a_part_that_comes_twice_is_none_of_its_refusals(self):
        self.assertEqual(ask(once([3, 3])), [[1, 6]])

    def test_all_small_ones_by_joining(self):
        for size in range(0, 16):
            whole = partitions_of(size)
            wanted = [[len(joined(parts))] + joined(parts) if all(part % 2 for part in parts) else [-4]
                      for parts in whole]
            self.assertEqual(ask_all([once(parts) for parts in whole]), wanted)


class Diagonal(unittest.TestCase):
    def test_its_square_then_two_numbers_for_each(self):
        self.assertEqual(ask(diagonal([4, 2, 1]), diagonal([5, 5]), diagonal([3, 3, 3]), diagonal([4, 3, 3, 2, 1])),
                         [[2, 3, 2, 0, 0], [2, 4, 1, 3, 0], [3, 2, 2, 1, 1, 0, 0], [3, 3, 4, 1, 2, 0, 0]])

    def test_one_part_and_parts_1(self):
        self.assertEqual(ask(diagonal([1]), diagonal([6]), diagonal([1] * 6), diagonal([2, 1])),
                         [[1, 0, 0], [1, 5, 0], [1, 0, 5], [1, 1, 1]])

    def test_together_60(self):
        self.assertEqual(ask(diagonal([60]), diagonal([1] * 60), diagonal([30, 30]), diagonal([2] * 30),
                             diagonal([11] + [7] * 7)),
                         [[1, 59, 0], [1, 0, 59], [2, 29, 1, 28, 0], [2, 1, 29, 0, 28],
                          [7, 10, 7, 5, 6, 4, 5, 3, 4, 2, 3, 1, 2, 0, 1]])

    def test_all_small_ones_by_their_cells(self):
        for size in range(0, 13):
            whole = partitions_of(size)
            self.assertEqual(ask_all([diagonal(parts) for parts in whole]), [by_the_cells(parts) for parts in whole])


class AllFour(unittest.TestCase):
    def test_the_partition_without_parts(self):
        self.assertEqual(ask(*[call([]) for call in FOUR]), [[0]] * 4)

    def test_no_such_partition(self):
        for words, parts in NO_PARTITIONS.items():
            self.assertEqual(ask(*[call(parts) for call in FOUR]), [[-3]] * 4, words)

    def test_together_60_is_one_and_61_is_none(self):
        for call in FOUR:
            self.assertGreater(ask(call([59, 1]))[0][0], 0)
            self.assertGreater(ask(call([31, 25, 3, 1]))[0][0], 0)
            self.assertEqual(ask(call([60, 1]), call([59, 2]), call([59, 1, 1]), call([31, 25, 5])), [[-3]] * 4)

    def test_the_row_of_things_has_no_part_in_it(self):
        asked = [turn([3, 1]), odd([3, 2]), once([3, 1, 1]), diagonal([3, 1])]
        self.assertEqual(ask(*asked), ask(begin([]), *asked)[1:])

    def test_refused_leaves_the_row_as_it_was(self):
        self.assertEqual(ask(begin([2]), turn([0]), odd([1, 1]), once([2]), diagonal([61]), count(0, 1, 0, 9)),
                         [[2], [-3], [-4], [-4], [-3], [2]])


if __name__ == "__main__":
    unittest.main()
