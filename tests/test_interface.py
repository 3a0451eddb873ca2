"""The interface: how calls are handed in, how answers come back, and that nothing is kept."""

import unittest

from asking import begin, eat, good, group, joined, order, people, trade, turns, wish, wishes
from wishgiving.giving import answers


# Where two people are there: each call, with what is answered and what is refused.
ALL_FOR_TWO = [trade([0, 1]), turns([1, 0]), good([0, 1]), order([0, 1]), order([1, 0]), group([0, 1, 1, 0]),
               eat(), trade([0]), good([]), order([1]), group([0, 1]), eat(7), people(17), wish(1, [1, 1])]


class Unchangeable(list):
    """A list that fails whoever changes it, for a while too."""

    def refuse(self, *args, **kwargs):
        raise AssertionError("what was handed in was changed")

    append = extend = insert = pop = remove = clear = sort = reverse = refuse
    __setitem__ = __delitem__ = __iadd__ = __imul__ = refuse


class Interface(unittest.TestCase):
    def test_empty_list(self):
        self.assertEqual(answers([]), [])

    def test_numbers_as_they_stand(self):
        calls = [0, 1, 2, 2, 0, 2, 1, 0, 2, 1, 2, 0, 1, 3, 2, 2, 0, 1, 4, 16, 2, 1, 0]
        told = [1, 0, 1, 0, 1, 0, 1, 0, 3, 2, 1, 0, 3, 2, 1, 0]
        self.assertEqual(answers(calls), told)

    def test_numbers_of_good_order_group_and_eat_as_they_stand(self):
        start = [0, 1, 2, 2, 0, 2, 1, 0, 2, 1, 2, 0, 1]
        told = [1, 0] * 4
        asked = [5, 2, 1, 0, 5, 2, 0, 1, 6, 2, 2, 1, 0, 6, 0, 2, 0, 1]
        self.assertEqual(answers(start + asked), told + [1, 1, 1, 0, 3, 2, 0, 1, 1, 0])
        asked = [7, 4, 0, 1, 0, 1, 7, 4, 0, 1, 1, 0, 8, 8]
        self.assertEqual(answers(start + asked), told + [2, 1, 3, 2, 0, 0, 9, 8, 0, 1, 1, 1, 1, 1, 0, 1])

    def test_refusals_of_good_order_group_and_eat_are_one_number(self):
        calls = [0, 5, 0, 6, 1, 0, 7, 0, 8, 2, 1, 1, 5, 1, 0, 6, 1, 1, 0, 7, 2, 0, 0, 8, 2, 2, 0, 1, 0]
        calls += [5, 1, 9, 6, 1, 1, 9, 6, 0, 1, 0, 7, 1, 0, 8, 1]
        told = [1, 0] + [1, -4] * 4 + [1, 0] + [1, -3] * 4 + [1, 0, 1, -1, 1, -1, 1, -2, 1, -1, 1, -2]
        self.assertEqual(answers(calls), told)

    def test_refusals_are_one_number(self):
        calls = [0, 3, 16, 0, 1, 17, 1, 1, 4, 1, 1, 0, 2, 0, 1, 0, 3, 0, 1, 0, 4, 1, 1, 9]
        self.assertEqual(answers(calls), [1, 0, 1, -4, 1, -1, 1, 0, 1, -3, 1, 0, 1, -2, 1, -1])

    def test_empty_rows(self):
        empty = [trade([]), turns([]), good([]), order([]), group([])]
        calls = [begin(), people(1), wish(0, []), wish(0, [0])] + empty + [begin()]
        self.assertEqual(answers(joined(calls)), [1, 0, 1, 0, 1, -1, 1, 0] + [1, -1] * 5 + [1, 0])

    def test_plain_whole_numbers_in_a_plain_list(self):
        told = answers(joined(wishes([[1, 0], [0, 1]]) + ALL_FOR_TWO))
        self.assertIs(type(told), list)
        self.assertEqual({type(number) for number in told}, {int})

    def test_what_is_handed_in_stays(self):
        calls = joined(wishes([[1, 0], [0, 1]]) + ALL_FOR_TWO)
        before = list(calls)
        answers(calls)
        self.assertEqual(calls, before)

    def test_what_is_handed_in_is_not_changed_for_a_while(self):
        calls = joined(wishes([[1, 0], [0, 1]]) + ALL_FOR_TWO + [begin()])
        self.assertEqual(answers(Unchangeable(calls)), answers(calls))

    def test_nothing_is_kept(self):
        calls = joined(wishes([[1, 0], [0, 1]]) + ALL_FOR_TWO)
        told = answers(calls)
        self.assertEqual(answers(calls), told)
        self.assertEqual(answers(joined([begin(), good([0, 1]), eat()])), [1, 0, 1, -4, 1, -4])
        self.assertEqual(answers(joined([begin(), people(2), turns([0, 1])])), [1, 0, 1, 0, 1, -3])

    def test_what_is_given_back_is_new(self):
        calls = joined(wishes([[0]]) + [trade([0])])
        told = answers(calls)
        told.clear()
        self.assertEqual(answers(calls), [1, 0, 1, 0, 1, 0, 2, 1, 0])

    def test_400_calls(self):
        row = list(range(16))
        calls = wishes([row] * 16)
        calls += [trade(row)] * (400 - len(calls))
        self.assertEqual(answers(joined(calls)), [1, 0] * 18 + ([17, 16] + row) * 382)


if __name__ == "__main__":
    unittest.main()
