"""Points 2 to 4, each over all partitions of 0 to 20 (to 32 where they are few) and some of 60."""

import unittest

from asking import ask_all, diagonal, odd, once, partitions_of, turn

WHOLE = [parts for size in range(0, 21) for parts in partitions_of(size)]
OF_60 = [parts for parts in partitions_of(60, 3) + [[60 - sum(rest)] + rest for rest in WHOLE] if sum(parts) == 60]
DIFFERENT = [parts for size in range(0, 33) for parts in partitions_of(size) if len(set(parts)) == len(parts)]
OF_ODD = [parts for size in range(0, 33) for parts in partitions_of(size) if all(part % 2 for part in parts)]


class WhatIsTried(unittest.TestCase):
    def test_these_are_partitions_as_many_as_there_are(self):
        self.assertEqual(len(partitions_of(20)), 627)
        self.assertEqual(len(WHOLE), 2714)
        self.assertEqual(len(DIFFERENT), len(OF_ODD))
        self.assertTrue(all(parts == sorted(parts, reverse=True) and 0 not in parts for parts in WHOLE + OF_60))


class Point2(unittest.TestCase):
    def check(self, whole):
        turned = ask_all([turn(parts) for parts in whole])
        again = ask_all([turn(answer[1:]) for answer in turned])
        squares = ask_all([diagonal(parts) for parts in whole])
        turned_squares = ask_all([diagonal(answer[1:]) for answer in turned])
        for at, parts in enumerate(whole):
            self.assertEqual(again[at], [len(parts)] + parts)
            self.assertEqual(turned[at][0], len(turned[at]) - 1)
            self.assertEqual(max(turned[at][1:], default=0), len(parts))
            self.assertEqual(turned[at][0], max(parts, default=0))
            self.assertEqual(sum(turned[at][1:]), sum(parts))
            self.assertEqual(turned_squares[at][0], squares[at][0])

    def test_all_partitions_of_0_to_20(self):
        self.check(WHOLE)

    def test_partitions_of_60(self):
        self.check(OF_60)


class Point3(unittest.TestCase):
    def check(self, there, back, whole, others):
        """What there answers are all of others, each once; back takes it back."""
        told = ask_all([there(parts) for parts in whole])
        again = ask_all([back(answer[1:]) for answer in told])
        for parts, answer, taken_back in zip(whole, told, again):
            self.assertEqual(taken_back, [len(parts)] + parts)
            self.assertEqual(answer[0], len(answer) - 1)
            self.assertEqual(sum(answer[1:]), sum(parts))
            self.assertEqual(answer[1:], sorted(answer[1:], reverse=True))
        self.assertEqual(sorted(answer[1:] for answer in told), sorted(others))

    def test_odd_then_once(self):
        self.check(odd, once, DIFFERENT, OF_ODD)

    def test_once_then_odd(self):
        self.check(once, odd, OF_ODD, DIFFERENT)

    def test_together_60(self):
        different = [parts for parts in OF_60 if len(set(parts)) == len(parts)]
        of_odd = [parts for parts in OF_60 if all(part % 2 for part in parts)]
        for there, back, whole in ((odd, once, different), (once, odd, of_odd)):
            self.assertGreater(len(whole), 90)
            told = ask_all([there(parts) for parts in whole])
            self.assertEqual([sum(answer[1:]) for answer in told], [60] * len(whole))
            self.assertEqual([answer[1:] for answer in ask_all([back(answer[1:]) for answer in told])], whole)


class Point4(unittest.TestCase):
    def check(self, whole):
        told = ask_all([diagonal(parts) for parts in whole])
        for parts, answer in zip(whole, told):
            self.assertEqual(len(answer), 1 + 2 * answer[0])
            self.assertEqual(sum(answer[1:]) + answer[0], sum(parts))
            self.assertGreaterEqual(min(answer), 0)
        self.assertEqual(len({tuple(answer) for answer in told}), len({tuple(parts) for parts in whole}))

    def test_all_partitions_of_0_to_20(self):
        self.check(WHOLE)

    def test_partitions_of_60(self):
        self.check(OF_60)


if __name__ == "__main__":
    unittest.main()
