import unittest

from asking import (JUST_ALL, MOST, ONE_TOO_MANY, TWICE_OF_TWO, TWO_HUNDRED, ask, ask_all, begin, count, flat,
                    following, last_answer, listing, make, number, sets_by_trying, told)


class Next(unittest.TestCase):
    def test_the_next_sets_number_then_it(self):
        self.assertEqual(last_answer(following(0, 0, 9, [1, 0, 1, 0, 2, 0])), [2, 2, 1, 0, 3, 0])
        self.assertEqual(last_answer(following(1, 0, 9, [1, 0, 3, 0])), [1, 1, 4, 0])

    def test_with_and_without_repeats(self):
        self.assertEqual(ask(begin([2, 1]), following(0, 0, 9, [1, 0, 1, 1]), following(1, 0, 9, [1, 0, 1, 1])),
                         [[3], [2, 2, 1, 1, 1, 1], [1, 1, 2, 0]])

    def test_lo_and_hi_pass_sets_over(self):
        ones = [1, 0] * 4
        self.assertEqual(ask(following(0, 0, 9, ones), following(0, 4, 4, ones), following(0, 3, 4, ones)),
                         [[1, 3, 1, 0, 1, 0, 2, 0], [-6], [1, 3, 1, 0, 1, 0, 2, 0]])
        self.assertEqual(ask(following(0, 2, 2, [1, 0, 3, 0]), following(0, 1, 2, [2, 0, 2, 0])),
                         [[1, 2, 2, 0, 2, 0], [2, 1, 4, 0]])
        self.assertEqual(ask(following(0, 2, MOST, [2, 0, 2, 0]), following(0, 0, MOST, [2, 0, 2, 0])),
                         [[-6], [4, 1, 4, 0]])

    def test_all_small_sets_as_found_by_trying(self):
        for how_many in ([1, 1, 1, 1, 1, 1], TWICE_OF_TWO, [3], [0, 2, 0, 1]):
            for repeats in (0, 1):
                for lo, hi in ((0, 9), (2, 3), (1, 2)):
                    sets = sets_by_trying(how_many, repeats, 6, lo, hi)
                    asked = ask(begin(how_many), *[following(repeats, lo, hi, flat(one)) for one in sets])
                    wanted = [[at + 1] + told(one) for at, one in enumerate(sets[1:])] + ([[-6]] if sets else [])
                    self.assertEqual(asked[1:], wanted)

    def test_from_the_first_set_on_they_are_those_of_list(self):
        walks = (([1] * 60, 0, 12, 0, 60), ([1] * 60, 1, 20, 2, 4), (TWO_HUNDRED, 1, 3, 2, 2), ([3, 2, 1], 0, 6, 2, 5),
                 ([4] * 3, 1, 8, 5, 7), ([0, 4, 0, 0, 2], 0, 14, 0, 60))
        for row, repeats, size, lo, hi in walks:
            listed = last_answer(begin(row), listing(repeats, size, lo, hi))
            one = last_answer(begin(row), make(repeats, size, lo, hi, 0))[1:]
            walked = list(one)
            steps = 1
            while True:
                answer = last_answer(begin(row), following(repeats, lo, hi, one[1:]))
                if answer == [-6]:
                    break
                self.assertEqual(answer[0], steps)
                one = answer[1:]
                walked += one
                steps += 1
            self.assertGreater(steps, 8)
            self.assertEqual([steps] + walked, listed, (row, repeats, size, lo, hi))

    def test_what_it_tells_is_what_make_and_number_tell(self):
        made = ask_all([make(0, 60, 3, 3, k) for k in range(300)])
        asked = ask_all([following(0, 3, 3, one[2:]) for one in made])
        self.assertEqual([answer[1:] for answer in asked[:-1]], [one[1:] for one in made[1:]])
        self.assertEqual(ask_all([number(0, 3, 3, answer[2:]) for answer in asked[:-1]]),
                         [[answer[0], 60] for answer in asked[:-1]])

    def test_the_last_set(self):
        self.assertEqual(ask(following(0, 0, 60, [60, 0]), following(1, 0, 60, [60, 0]), following(0, 0, 9, [1, 0])),
                         [[-6], [-6], [-6]])
        self.assertEqual(ask(following(1, 2, 2, [29, 0, 31, 0]), following(0, 2, 2, [29, 0, 31, 0]),
                             following(0, 2, 2, [30, 0, 30, 0])),
                         [[-6], [29, 2, 30, 0, 30, 0], [-6]])
        self.assertEqual(ask(begin([60]), following(1, 0, 60, flat([(1, each) for each in range(60)]))), [[60], [-6]])

    def test_the_first_set(self):
        self.assertEqual(ask(following(0, 0, 60, [1, 0] * 60)), [[1, 59] + [1, 0] * 58 + [2, 0]])

    def test_the_set_of_no_things(self):
        self.assertEqual(ask(following(0, 0, 0, []), following(1, 0, MOST, []), following(0, 1, 9, []),
                             begin([]), following(0, 0, 9, []), following(1, 1, 9, [])),
                         [[-6], [-6], [-3], [0], [-6], [-3]])

    def test_a_number_left_over(self):
        self.assertEqual(ask(following(0, 0, 9, [1]), following(1, 0, 9, [1, 0, 2]),
                             following(0, 0, MOST, [1, 0] * 511 + [1])),
                         [[-3], [-3], [-3]])

    def test_repeats_above_1(self):
        self.assertEqual(ask(following(2, 0, 9, [1, 0, 1, 0]), following(MOST, 0, 9, [])), [[-1], [-1]])

    def test_no_such_set(self):
        for things in ([0, 0], [1, 2], [2, 0], [3, 1], [61, 0], [1, MOST], [MOST, 0], [3, 0, 1, 0], [1, 1, 1, 0]):
            for repeats in (0, 1):
                self.assertEqual(last_answer(begin([2, 0, 1]), following(repeats, 0, 9, things)), [-3], things)
        self.assertEqual(ask(following(0, 0, 9, [1, 0, 1, 0]), following(1, 0, 9, [1, 0, 1, 0])),
                         [[1, 1, 2, 0], [-3]])

    def test_fewer_than_lo_or_more_than_hi(self):
        pair = [1, 0, 2, 0]
        self.assertEqual(ask(following(0, 2, 2, pair), following(0, 3, 9, pair), following(0, 0, 1, pair),
                             following(0, 2, 1, pair), following(0, MOST, MOST, pair), following(0, 0, MOST, pair)),
                         [[-6], [-3], [-3], [-3], [-3], [2, 1, 3, 0]])

    def test_sizes_60_and_61(self):
        self.assertEqual(ask(following(1, 0, 60, [29, 0, 31, 0]), following(1, 0, 60, [1, 0, 60, 0])),
                         [[10879, 1, 60, 0], [-1]])
        self.assertEqual(ask(following(0, 0, 99, [1, 0] * 61), following(0, 0, MOST, [60, 0] * 512)), [[-1], [-1]])

    def test_10_to_the_18_sets_and_one_more(self):
        last = [28, 0, 32, 0]
        before = last_answer(begin(JUST_ALL), make(0, 60, 0, 60, 10 ** 18 - 2))[2:]
        self.assertEqual(ask(begin(JUST_ALL), following(0, 0, 60, before), following(0, 0, 60, last)),
                         [[57], [10 ** 18 - 1, 2] + last, [-6]])
        self.assertEqual(ask(begin(ONE_TOO_MANY), following(0, 0, 60, last), following(0, 0, 60, [60, 0]),
                             following(0, 2, 60, last), following(0, 1, 1, [60, 0])),
                         [[58], [-7], [-7], [-6], [-6]])

    def test_the_one_told_first(self):
        self.assertEqual(ask(begin([60]),
                             following(2, 0, 60, [1]),
                             following(2, 0, 60, [9, 9]),
                             following(0, 0, 60, [1, 60] + [1, 0] * 60),
                             following(0, 0, 60, [1, 0] * 61),
                             following(0, 0, 61, [1, 59] * 61),
                             following(0, 0, 60, [1, 59] * 60),
                             following(0, 0, 60, [1, 59])),
                         [[60], [-3], [-1], [-3], [-3], [-1], [-7], [-6]])

    def test_refused_leaves_all_as_it_was(self):
        self.assertEqual(ask(begin([2]), following(0, 0, 9, [1]), following(2, 0, 9, []), following(0, 0, 9, [2, 0]),
                             following(0, 0, 99, [1, 1] * 61), following(0, 0, 9, [1, 1]), count(0, 1, 0, 9)),
                         [[2], [-3], [-1], [-3], [-1], [-6], [2]])


if __name__ == "__main__":
    unittest.main()
