import unittest

from asking import MOST, begin, count, diagonal, following, listing, make, number, odd, once, turn
from partsandsets.things import answers

EACH_CALL = (begin([2, 1]) + count(0, 3, 0, 9) + make(1, 3, 0, 9, 1) + number(0, 0, 9, [1, 0, 2, 0])
             + listing(1, 2, 0, 9) + begin([61]) + count(2, 3, 0, 9) + make(0, 3, 0, 9, MOST)
             + number(1, 0, 9, [2, 0, 1]) + listing(0, 61, 0, 9) + following(0, 0, 9, [1, 1, 1, 1])
             + turn([3, 1]) + odd([6, 1]) + once([3, 3, 1]) + diagonal([3, 2]) + following(1, 0, 9, [2, 0])
             + turn([1, 3]) + odd([1, 1]) + once([2]) + diagonal([0]))
EACH_ANSWER = [1, 3, 1, 6, 6, 2, 2, 1, 1, 2, 0, 2, 3, 3, 9, 2, 2, 1, 0, 1, 1, 1, 2, 0,
               1, -1, 1, -1, 1, -3, 1, -3, 1, -1, 4, 3, 1, 2, 0,
               4, 3, 2, 1, 1, 4, 3, 3, 3, 1, 3, 2, 6, 1, 5, 2, 2, 1, 0, 0, 1, -6,
               1, -3, 1, -4, 1, -4, 1, -3]


class Interface(unittest.TestCase):
    def test_each_answer_has_how_many_numbers_it_has_before_it(self):
        self.assertEqual(answers(EACH_CALL), EACH_ANSWER)

    def test_gives_back_a_list_of_whole_numbers(self):
        told = answers(EACH_CALL)
        self.assertIs(type(told), list)
        self.assertEqual({type(each) for each in told}, {int})

    def test_what_is_handed_in_stays_as_it_was(self):
        calls = list(EACH_CALL)
        answers(calls)
        self.assertEqual(calls, EACH_CALL)

    def test_what_is_handed_in_is_not_changed_for_a_while_either(self):
        class Sealed(list):
            def refuse(self, *given):
                raise AssertionError("what is handed in was changed")

            append = extend = insert = pop = remove = clear = reverse = sort = refuse
            __setitem__ = __delitem__ = __iadd__ = __imul__ = refuse

        self.assertEqual(answers(Sealed(EACH_CALL)), EACH_ANSWER)

    def test_nothing_is_kept_from_one_time_to_the_next(self):
        before = answers(count(0, 60, 0, 60))
        self.assertEqual(answers(EACH_CALL), EACH_ANSWER)
        self.assertEqual(answers(EACH_CALL), EACH_ANSWER)
        self.assertEqual(answers(count(0, 60, 0, 60)), before)
        self.assertEqual(before, [1, 966467])

    def test_changing_an_answer_changes_no_later_one(self):
        answers(listing(0, 4, 0, 9)).clear()
        self.assertEqual(answers(listing(0, 1, 0, 9)), [4, 1, 1, 1, 0])

    def test_60_calls_and_a_list_of_16000_numbers(self):
        self.assertEqual(answers(count(1, 60, 0, 60) * 60), [1, 10880] * 60)
        long_calls = number(0, 0, MOST, [1, 0] * 512) * 15
        self.assertEqual(answers(long_calls), [1, -1] * 15)


if __name__ == "__main__":
    unittest.main()
