"""Promises 1 to 3: begin, people and wish."""

import unittest

from asking import ask, begin, eat, good, group, last, order, people, trade, turns, wish, wishes

LEAST = -2147483648
HIGHEST = 2147483647
FIT_FOR_TWO = [trade([0, 1]), turns([0, 1]), good([0, 1]), order([0, 1]), group([0, 1, 0, 1]), eat()]
# What is refused with -1 or -2 where two people are there and their wishes are known.
WRONG_FOR_TWO = [trade([]), trade([1, 1], 0), trade([0, 1], 1), turns([0, 1, 2]), turns([0, 1], 17),
                 good([]), good([0, 0]), good([0, 1, 2]), order([]), order([0, 0], 0), order([0, 1], 1),
                 order([0, 1], 17), group([]), group([0, 1]), group([0, 1, 1, 1]), group([0] * 32),
                 eat(0), eat(7), eat(129), eat(-1)]


class Begin(unittest.TestCase):
    def test_answers_zero(self):
        self.assertEqual(ask(begin()), [[0]])
        self.assertEqual(ask(begin(), begin()), [[0], [0]])

    def test_nobody_is_there_behind_it(self):
        calls = [wish(0, [0]), trade([0]), turns([0]), good([0]), order([0]), group([0, 0]), eat()]
        self.assertEqual(ask(begin(), *calls), [[0]] + [[-4]] * 7)

    def test_rows_of_refused_calls_are_passed_over(self):
        self.assertEqual(ask(begin(), *FIT_FOR_TWO, people(1)), [[0]] + [[-4]] * 6 + [[0]])

    def test_nobody_there_comes_ahead_of_all_other_refusals(self):
        calls = [wish(-1, []), wish(7, [3, 3]), turns([], -1)] + WRONG_FOR_TWO
        for call in calls:
            with self.subTest(call=call):
                self.assertEqual(ask(begin(), call), [[0], [-4]])

    def test_sends_all_away_in_the_middle(self):
        calls = wishes([[0, 1], [0, 1]]) + [trade([1, 0]), begin()]
        after = [wish(0, [0, 1])] + FIT_FOR_TWO
        self.assertEqual(ask(*calls, *after)[4:], [[2, 1, 0], [0]] + [[-4]] * 7)

    def test_wishes_do_not_come_back_behind_it(self):
        calls = wishes([[0, 1], [0, 1]]) + [begin(), people(2), turns([0, 1])]
        self.assertEqual(last(calls), [-3])


class People(unittest.TestCase):
    def test_each_size(self):
        for size in range(1, 17):
            with self.subTest(size=size):
                row = list(range(size))
                calls = wishes([row] * size) + [turns(row)]
                self.assertEqual(ask(*calls), [[0]] * (size + 2) + [[size] + row])

    def test_outside_1_to_16(self):
        for size in [0, -1, -16, 17, 18, 255, LEAST, HIGHEST]:
            with self.subTest(size=size):
                self.assertEqual(ask(begin(), people(size), wish(0, [0])), [[0], [-1], [-4]])

    def test_refused_leaves_people_and_wishes(self):
        for size in [0, -3, 17]:
            with self.subTest(size=size):
                calls = wishes([[1, 0], [1, 0]]) + [people(size), turns([1, 0])]
                self.assertEqual(ask(*calls)[4:], [[-1], [2, 0, 1]])

    def test_called_anew_forgets_wishes(self):
        for size in [1, 2, 3]:
            with self.subTest(size=size):
                row = list(range(size))
                calls = wishes([[1, 0], [1, 0]]) + [people(size), turns(row), trade(row)]
                self.assertEqual(ask(*calls)[4:], [[0], [-3], [-3]])

    def test_called_anew_has_as_many_people_and_things(self):
        start = wishes([[1, 0], [1, 0]])
        more = [people(3), wish(2, [2, 1, 0]), wish(0, [1, 0])]
        self.assertEqual(ask(*start, *more)[4:], [[0], [0], [-1]])
        fewer = [people(1), wish(1, [0]), wish(0, [1, 0]), wish(0, [0]), turns([0])]
        self.assertEqual(ask(*start, *fewer)[4:], [[0], [-1], [-1], [0], [1, 0]])


class Wish(unittest.TestCase):
    def test_answers_zero_in_any_order_of_people(self):
        calls = [begin(), people(3), wish(2, [1, 2, 0]), wish(0, [1, 0, 2]), wish(1, [1, 0, 2])]
        self.assertEqual(ask(*calls, turns([0, 1, 2])), [[0]] * 5 + [[3, 1, 0, 2]])

    def test_no_such_person(self):
        for person in [-1, 3, 4, 16, LEAST, HIGHEST]:
            with self.subTest(person=person):
                calls = [begin(), people(3), wish(person, [0, 1, 2])]
                self.assertEqual(last(calls), [-1])

    def test_last_person(self):
        self.assertEqual(last([begin(), people(3), wish(2, [0, 1, 2])]), [0])
        self.assertEqual(last([begin(), people(16), wish(15, list(range(16)))]), [0])

    def test_not_all_things_each_once(self):
        wrong = [[], [0], [0, 1], [0, 1, 2, 3], [0, 1, 2, 2], [0, 0, 1], [1, 1, 1], [0, 1, 3],
                 [1, 2, 3], [0, 1, 255], [0, 1, 1], list(range(16))]
        for things in wrong:
            with self.subTest(things=things):
                self.assertEqual(last([begin(), people(3), wish(0, things)]), [-1])

    def test_anew_stands_for_the_earlier(self):
        calls = wishes([[0, 1], [0, 1]]) + [wish(0, [1, 0]), turns([0, 1])]
        self.assertEqual(ask(*calls)[4:], [[0], [2, 1, 0]])

    def test_refused_leaves_the_earlier(self):
        for things in [[1], [1, 1], [1, 0, 2], []]:
            with self.subTest(things=things):
                calls = wishes([[0, 1], [0, 1]]) + [wish(0, things), turns([0, 1])]
                self.assertEqual(ask(*calls)[4:], [[-1], [2, 0, 1]])

    def test_of_no_such_person_changes_nobody(self):
        for person in [-1, -2, 2]:
            with self.subTest(person=person):
                calls = wishes([[0, 1], [0, 1]]) + [wish(person, [1, 0]), turns([0, 1])]
                self.assertEqual(ask(*calls)[4:], [[-1], [2, 0, 1]])

    def test_refused_wishes_are_not_known(self):
        calls = [begin(), people(1), wish(0, [1]), wish(-1, [0]), turns([0])]
        self.assertEqual(ask(*calls)[2:], [[-1], [-1], [-3]])


class NotKnown(unittest.TestCase):
    """Promise 4."""

    def test_until_everybody_has_wished(self):
        start = [begin(), people(2)]
        first = wish(0, [0, 1])
        second = wish(1, [0, 1])
        for known in [[], [first], [second], [first, first], [first, wish(1, [1]), wish(2, [0, 1])]]:
            with self.subTest(known=known):
                self.assertEqual(ask(*start, *known, *FIT_FOR_TWO)[-6:], [[-3]] * 6)
        told = [[2, 0, 1], [2, 0, 1], [1], [2, 0, 1], [0, 0], [8] + [1, 2] * 4]
        self.assertEqual(ask(*start, second, first, *FIT_FOR_TWO)[-6:], told)

    def test_one_of_many_is_enough(self):
        row = list(range(5))
        asked = [trade(row), turns(row), good(row), order(row), group(row + row), eat()]
        for person in row:
            with self.subTest(person=person):
                calls = [begin(), people(5)] + [wish(i, row) for i in row if i != person]
                self.assertEqual(ask(*calls, *asked)[-6:], [[-3]] * 6)

    def test_comes_ahead_of_what_follows(self):
        calls = [begin(), people(2), wish(1, [0, 1])]
        for call in WRONG_FOR_TWO:
            with self.subTest(call=call):
                self.assertEqual(last(calls + [call]), [-3])
                self.assertIn(last(calls + [wish(0, [0, 1]), call]), [[-1], [-2]])

    def test_wishes_anew_are_no_such_time(self):
        calls = wishes([[0, 1], [0, 1]]) + [wish(0, [1, 0]), turns([1, 0])]
        self.assertEqual(last(calls), [2, 1, 0])


if __name__ == "__main__":
    unittest.main()
