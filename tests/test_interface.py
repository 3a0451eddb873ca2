"""The interface: how calls are handed in, how answers come back, and that nothing is kept."""

import unittest

from asking import begin, joined, people, trade, turns, wish, wishes
from wishgiving.giving import answers


class Unchangeable(list):
    """A list that fails whoever changes it, for a while too."""

    def refuse(self, *args, **kwargs):
        raise AssertionError("what was handed in was changed")

    append = extend = insert = pop = remove = clear = sort = reverse = refuse
    __setitem__ = __delitem__ = __iadd__ = __imul__ = refuse


class Interface(unittest.TestCase):
    def test_empty_list(self):
        self.assertEqual(answers([]), [])

    def test_numbers_as_they_stand(self):
        calls = [0, 1, 2, 2, 0, 2, 1, 0, 2, 1, 2, 0, 1, 3, 2, 2, 0, 1, 4, 16, 2, 1, 0]
        told = [1, 0, 1, 0, 1, 0, 1, 0, 3, 2, 1, 0, 3, 2, 1, 0]
        self.assertEqual(answers(calls), told)

    def test_refusals_are_one_number(self):
        calls = [0, 3, 16, 0, 1, 17, 1, 1, 4, 1, 1, 0, 2, 0, 1, 0, 3, 0, 1, 0, 4, 1, 1, 9]
        self.assertEqual(answers(calls), [1, 0, 1, -4, 1, -1, 1, 0, 1, -3, 1, 0, 1, -2, 1, -1])

    def test_empty_rows(self):
        calls = [begin(), people(1), wish(0, []), wish(0, [0]), trade([]), turns([]), begin()]
        self.assertEqual(answers(joined(calls)), [1, 0, 1, 0, 1, -1, 1, 0, 1, -1, 1, -1, 1, 0])

    def test_plain_whole_numbers_in_a_plain_list(self):
        told = answers(joined(wishes([[1, 0], [0, 1]]) + [trade([0, 1]), turns([0])]))
        self.assertIs(type(told), list)
        self.assertEqual({type(number) for number in told}, {int})

    def test_what_is_handed_in_stays(self):
        calls = joined(wishes([[1, 0], [0, 1]]) + [trade([0, 1]), turns([1, 0]), people(17)])
        before = list(calls)
        answers(calls)
        self.assertEqual(calls, before)

    def test_what_is_handed_in_is_not_changed_for_a_while(self):
        calls = joined(wishes([[1, 0], [0, 1]]) + [trade([0, 1]), turns([1, 0]), begin()])
        self.assertEqual(answers(Unchangeable(calls)), answers(calls))

    def test_nothing_is_kept(self):
        calls = joined(wishes([[1, 0], [0, 1]]) + [trade([0, 1])])
        told = answers(calls)
        self.assertEqual(answers(calls), told)
        self.assertEqual(answers(turns([0, 1])), [1, -4])
        self.assertEqual(answers(joined([begin(), people(2), turns([0, 1])])), [1, 0, 1, 0, 1, -3])

    def test_what_is_given_back_is_new(self):
        calls = joined(wishes([[0]]) + [trade([0])])
        told = answers(calls)
        told.clear()
        self.assertEqual(answers(calls), [1, 0, 1, 0, 1, 0, 2, 1, 0])

    def test_400_calls(self):
        row = list(range(16))
        calls = wishes([row] * 16)
        calls += [trade(row)] * (400 - len(calls))
        self.assertEqual(answers(joined(calls)), [1, 0] * 18 + ([17, 16] + row) * 382)


if __name__ == "__main__":
    unittest.main()
