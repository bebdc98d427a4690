"""Lines in which calls of all ten sorts are mixed, held against answers found in the plainest way."""

import unittest

from asking import (MOST, ask, begin, count, diagonal, following, listing, make, number, odd, once, partitions_of,
                    told, turn)
from partsandsets.things import answers
from plainly import Plainly, sets_in_order

ROWS = ([2, 1], [1, 1, 1, 1, 1, 1], [3], [0, 2, 0, 1], [], [1, 0, 2], [4, 3, 2])
REFUSED_ROWS = ([61], [0] * 61, [30, 31], [MOST, 1], [0] * 1024)
NO_PARTITIONS = ([0], [1, 2], [61], [3, 0], [1] * 61, [MOST], [4, 4, 0])


class Drawer:
    """The same numbers each time the tests are run."""

    def __init__(self, seed):
        self.state = seed

    def below(self, end):
        self.state = (self.state * 6364136223846793005 + 1442695040888963407) % 2 ** 64
        return (self.state >> 33) % end

    def one_of(self, choices):
        return choices[self.below(len(choices))]

    def line(self, length):
        """A line's calls; what stands in the row is minded, so that most sets asked for are there."""
        plainly = Plainly()
        calls = []
        for each in range(length):
            calls.append(self.call(plainly.things))
            if calls[-1][0] == 1:
                plainly.answer(calls[-1])
        return calls

    def call(self, things):
        asked = 1 + self.below(10)
        if asked == 1:
            return begin(self.one_of(REFUSED_ROWS if self.below(3) == 0 else ROWS))
        repeats = self.one_of((0, 0, 0, 0, 1, 1, 1, 1, 2, MOST))
        lo = self.one_of((0, 0, 0, 1, 2))
        hi = self.one_of((60, 60, MOST, 3, 2, 4))
        size = self.one_of((0, 1, 2, 3, 4, 5, 6, 7, 8, 61, MOST))
        if asked in (2, 5):
            return (count if asked == 2 else listing)(repeats, size, lo, hi)
        if asked == 3:
            return make(repeats, size, lo, hi, self.one_of((0, 1, 2, 3, 5, 8, 13, MOST)))
        if asked in (4, 6):
            return (number if asked == 4 else following)(repeats, lo, hi, self.things(things, repeats))
        return (turn, odd, once, diagonal)[asked - 7](self.parts())

    def things(self, things, repeats):
        sets = sets_in_order(things, repeats % 2, self.below(8), 0, 60)
        numbers = told(self.one_of(sets))[1:] if sets else []
        spoilt = (numbers + [1], numbers + [1, 0], numbers + [9, 9], [1, 0] * 61, numbers[2:] + numbers[:2])
        return self.one_of(spoilt) if self.below(4) == 0 else numbers

    def parts(self):
        if self.below(8) == 0:
            return self.one_of(NO_PARTITIONS)
        whole = partitions_of(self.below(15))
        right = [parts for parts in whole if len(set(parts)) == len(parts) or all(part % 2 for part in parts)]
        return self.one_of(whole if self.below(2) else right)


def plain_answers(calls):
    plainly = Plainly()
    return [plainly.answer(call) for call in calls]


class Lines(unittest.TestCase):
    def test_all_ten_sorts_in_one_line(self):
        self.assertEqual(ask(turn([3, 1]), begin([2, 1]), following(0, 0, 9, [1, 1, 1, 1]), odd([4, 3]),
                             count(0, 2, 0, 9), once([1, 1]), make(0, 2, 0, 9, 3), diagonal([2, 2]),
                             number(0, 0, 9, [2, 0]), listing(1, 2, 0, 9)),
                         [[3, 2, 1, 1], [3], [3, 1, 2, 0], [5, 3, 1, 1, 1, 1],
                          [4], [1, 2], [4, 1, 2, 0], [2, 1, 1, 0, 0],
                          [3, 2], [2, 2, 1, 0, 1, 1, 1, 2, 0]])

    def test_all_ten_sorts_behind_a_begin_that_was_refused(self):
        behind = [turn([2]), following(0, 0, 9, [1, 0, 1, 0]), odd([2]), count(0, 3, 0, 9), once([3]),
                  make(0, 3, 0, 9, 2), diagonal([2]), number(0, 0, 9, [3, 0]), listing(1, 3, 0, 9)]
        wanted = [[2, 1, 1], [1, 1, 2, 0], [2, 1, 1], [3], [1, 3], [3, 1, 3, 0], [1, 1, 0], [2, 3],
                  [2, 2, 1, 0, 2, 0, 1, 3, 0]]
        self.assertEqual(ask(begin([61]), *behind), [[-1]] + wanted)
        self.assertEqual(ask(begin([1, 1, 1]), begin([0] * 61), *behind), [[3], [-1]] + wanted)
        self.assertEqual(ask(begin([61]), begin([]), *behind)[2:],
                         [[2, 1, 1], [-3], [2, 1, 1], [0], [1, 3], [-3], [1, 1, 0], [-3], [0]])

    def test_drawn_lines_as_answered_in_the_plainest_way(self):
        drawer = Drawer(1)
        for each in range(120):
            calls = drawer.line(1 + drawer.below(59))
            for call, answer, wanted in zip(calls, ask(*calls), plain_answers(calls)):
                self.assertEqual(answer, wanted, call)

    def test_drawn_lines_of_60_calls(self):
        drawer = Drawer(2)
        sorts = {}
        for each in range(30):
            calls = drawer.line(60)
            told_answers = ask(*calls)
            self.assertEqual(told_answers, plain_answers(calls))
            for call, answer in zip(calls, told_answers):
                sorts.setdefault(call[0], set()).add(min(answer[0], 0))
        # These lines try little unless each sort was answered and was refused in each way that is drawn.
        self.assertEqual(sorts, {1: {0, -1}, 2: {0, -1}, 3: {0, -1, -3}, 4: {0, -1, -3}, 5: {0, -1, -5},
                                 6: {0, -1, -3, -6}, 7: {0, -3}, 8: {0, -3, -4}, 9: {0, -3, -4}, 10: {0, -3}})

    def test_60_calls_of_each_sort_alone(self):
        for call in (begin([2, 1]), count(0, 5, 0, 9), make(1, 5, 0, 9, 1), number(0, 0, 9, [1, 0, 4, 0]),
                     listing(0, 5, 0, 9), following(0, 0, 9, [1, 0, 4, 0]), turn([3, 1]), odd([4, 1]), once([3, 3]),
                     diagonal([3, 3])):
            self.assertEqual(ask(*[call] * 60), ask(call) * 60)

    def test_16000_numbers(self):
        long_calls = turn([1] * 1024) * 14 + following(0, 0, MOST, [1, 0] * 512) + diagonal([MOST] * 500)
        self.assertLessEqual(len(long_calls), 16000)
        self.assertEqual(answers(long_calls), [1, -3] * 14 + [1, -1, 1, -3])

    def test_a_line_asked_twice_is_answered_the_same_and_stays_as_it_was(self):
        drawer = Drawer(3)
        for each in range(20):
            calls = [number for call in drawer.line(60) for number in call]
            before = list(calls)
            first = answers(calls)
            self.assertEqual(calls, before)
            self.assertEqual(answers(calls), first)
            self.assertEqual({type(number) for number in first}, {int})


if __name__ == "__main__":
    unittest.main()
