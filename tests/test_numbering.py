"""Point 1: each set of a size has one number, and the sets' order is their numbers' order."""

import unittest

from asking import JUST_ALL, ask_all, begin, flat, last_answer, make, number, sets_by_trying

ROWS = [[1] * 60, [3, 2, 1], [0, 4, 0, 0, 2], [1, 0, 0, 0, 1], [5]]


def pairs_of(made):
    """The set in an answer of make, as a tuple of pairs."""
    return tuple((made[at], made[at + 1]) for at in range(2, len(made), 2))


class Numbering(unittest.TestCase):
    def check_all_sets(self, row, repeats, size, lo, hi):
        first = last_answer(begin(row), make(repeats, size, lo, hi, 0))
        if first == [-3]:
            return 0
        made = ask_all([make(repeats, size, lo, hi, k) for k in range(first[0])], [begin(row)])
        sets = [pairs_of(each) for each in made]
        for answer, one in zip(made, sets):
            self.assertEqual(answer[:2], [first[0], len(one)])
            self.assertEqual(sum(weight for weight, each in one), size)
            self.assertTrue(lo <= len(one) <= hi)
            self.assertEqual(list(one), sorted(one))
            self.assertTrue(repeats == 0 or len(set(one)) == len(one))
        # Tuples of pairs compare as the document orders sets: by the earlier thing where they first differ.
        self.assertTrue(all(a < b for a, b in zip(sets, sets[1:])))
        numbered = ask_all([number(repeats, lo, hi, flat(one)) for one in sets], [begin(row)])
        self.assertEqual(numbered, [[k, size] for k in range(first[0])])
        return first[0]

    def test_whole_lists_take_each_other_back(self):
        for repeats in (0, 1):
            for row in ROWS:
                seen = 0
                for size in range(0, 11):
                    seen += self.check_all_sets(row, repeats, size, 0, 60)
                    seen += self.check_all_sets(row, repeats, size, 2, 3)
                self.assertGreater(seen, 3, (repeats, row))

    def test_all_sets_of_some_larger_size(self):
        self.assertEqual(self.check_all_sets([1] * 60, 0, 60, 0, 3), 331)
        self.assertEqual(self.check_all_sets([1] * 60, 1, 30, 0, 60), 296)
        self.assertEqual(self.check_all_sets([4] * 3, 1, 8, 3, 7), len(sets_by_trying([4] * 3, 1, 8, 3, 7)))

    def test_large_numbers_take_each_other_back(self):
        for row, size in ((JUST_ALL, 60), ([60], 16), ([10, 9, 8, 7], 40)):
            many = last_answer(begin(row), make(0, size, 0, 60, 0))[0]
            before = ()
            for k in sorted({0, 1, many // 7, many // 3, many // 2, many - 2, many - 1}):
                made = last_answer(begin(row), make(0, size, 0, 60, k))
                one = pairs_of(made)
                self.assertLess(before, one)
                self.assertEqual(last_answer(begin(row), number(0, 0, 60, flat(one))), [k, size])
                before = one


if __name__ == "__main__":
    unittest.main()
