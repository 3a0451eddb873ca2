"""Promises 5 and 6: trade and turns."""

import itertools
import random
import unittest

from asking import ask, last, trade, turns, wishes
from by_words import chance_rows, least_group

LEAST = -2147483648
HIGHEST = 2147483647


def none_does_better(rows, own, given):
    return least_group(rows, own, given) is None


def is_taken_in_turn(rows, order, given):
    """Whether nobody has a thing less dear than one that is taken only after them."""
    for place, person in enumerate(order):
        rank = rows[person].index(given[person])
        if any(rows[person].index(given[later]) < rank for later in order[place + 1:]):
            return False
    return sorted(given) == list(range(len(rows)))


class Trade(unittest.TestCase):
    def given(self, rows, own):
        answer = last(wishes(rows) + [trade(own)])
        self.assertEqual(answer[0], len(rows))
        return answer[1:]

    def test_one_person(self):
        self.assertEqual(last(wishes([[0]]) + [trade([0], 1)]), [1, 0])

    def test_two_exchange(self):
        self.assertEqual(self.given([[1, 0], [0, 1]], [0, 1]), [1, 0])
        self.assertEqual(self.given([[1, 0], [0, 1]], [1, 0]), [1, 0])

    def test_one_who_is_dearest_to_oneself_keeps_it(self):
        self.assertEqual(self.given([[0, 1], [0, 1]], [0, 1]), [0, 1])
        self.assertEqual(self.given([[0, 1], [0, 1]], [1, 0]), [1, 0])

    def test_ring_of_three(self):
        rows = [[1, 0, 2], [2, 1, 0], [0, 2, 1]]
        self.assertEqual(self.given(rows, [0, 1, 2]), [1, 2, 0])

    def test_two_rings_at_once(self):
        rows = [[1, 0, 2, 3], [0, 1, 2, 3], [3, 0, 1, 2], [2, 0, 1, 3]]
        self.assertEqual(self.given(rows, [0, 1, 2, 3]), [1, 0, 3, 2])

    def test_who_leads_into_a_ring_looks_again(self):
        rows = [[1, 3, 0, 2], [2, 0, 1, 3], [1, 0, 2, 3], [1, 2, 0, 3]]
        self.assertEqual(self.given(rows, [0, 1, 2, 3]), [3, 2, 1, 0])

    def test_things_differ_from_their_owners(self):
        rows = [[0, 1, 2], [1, 0, 2], [0, 2, 1]]
        self.assertEqual(self.given(rows, [2, 0, 1]), [2, 1, 0])

    def test_all_of_three_against_the_groups(self):
        every = list(itertools.permutations(range(3)))
        for rows in itertools.product(every, repeat=3):
            calls = wishes(rows) + [trade(own) for own in every]
            for own, answer in zip(every, ask(*calls)[5:]):
                alone = [given for given in every if none_does_better(rows, own, given)]
                self.assertEqual([[3] + list(given) for given in alone], [answer], (rows, own))

    def test_larger_against_the_groups(self):
        chance = random.Random(1)
        for size in [4, 5]:
            for _ in range(60):
                rows = chance_rows(chance, size)
                own = chance.sample(range(size), size)
                given = self.given(rows, own)
                self.assertEqual(sorted(given), list(range(size)))
                self.assertTrue(none_does_better(rows, own, given), (rows, own, given))

    def test_sixteen(self):
        row = list(range(16))
        own = row[1:] + row[:1]
        self.assertEqual(self.given([row] * 16, own), own)
        self.assertEqual(self.given([[own[i]] + own[:i] + own[i + 1:] for i in row], row), own)

    def test_changes_nothing(self):
        rows = [[1, 0, 2], [2, 1, 0], [0, 2, 1]]
        calls = wishes(rows) + [trade([0, 1, 2]), trade([0, 1, 2]), trade([2, 1, 0])]
        self.assertEqual(ask(*calls)[5:], [[3, 1, 2, 0], [3, 1, 2, 0], [3, 1, 2, 0]])


class Turns(unittest.TestCase):
    def given(self, rows, order):
        answer = last(wishes(rows) + [turns(order)])
        self.assertEqual(answer[0], len(rows))
        return answer[1:]

    def test_one_person(self):
        self.assertEqual(last(wishes([[0]]) + [turns([0], 1)]), [1, 0])

    def test_the_first_takes_first(self):
        rows = [[2, 1, 0], [2, 0, 1], [2, 0, 1]]
        self.assertEqual(self.given(rows, [0, 1, 2]), [2, 0, 1])
        self.assertEqual(self.given(rows, [0, 2, 1]), [2, 1, 0])
        self.assertEqual(self.given(rows, [2, 0, 1]), [1, 0, 2])
        self.assertEqual(self.given(rows, [1, 2, 0]), [1, 2, 0])

    def test_things_stand_by_person_and_not_by_turn(self):
        rows = [[0, 1, 2]] * 3
        self.assertEqual(self.given(rows, [1, 2, 0]), [2, 0, 1])

    def test_all_of_three(self):
        every = list(itertools.permutations(range(3)))
        for rows in itertools.product(every, repeat=3):
            calls = wishes(rows) + [turns(order) for order in every]
            for order, answer in zip(every, ask(*calls)[5:]):
                self.assertEqual(answer[0], 3)
                self.assertTrue(is_taken_in_turn(rows, order, answer[1:]), (rows, order))

    def test_larger(self):
        chance = random.Random(2)
        for size in range(4, 17):
            for _ in range(20):
                rows = chance_rows(chance, size)
                order = chance.sample(range(size), size)
                given = self.given(rows, order)
                self.assertTrue(is_taken_in_turn(rows, order, given), (rows, order, given))

    def test_changes_nothing(self):
        calls = wishes([[0, 1], [0, 1]]) + [turns([1, 0]), turns([1, 0]), turns([0, 1])]
        self.assertEqual(ask(*calls)[4:], [[2, 1, 0], [2, 1, 0], [2, 0, 1]])


class Refusals(unittest.TestCase):
    """What trade and turns refuse alike."""

    def each(self, rows, row, most, expected):
        for call in [trade, turns]:
            with self.subTest(call=call.__name__, row=row, most=most):
                self.assertEqual(last(wishes(rows) + [call(row, most)]), expected)

    def test_not_each_once(self):
        wrong = [[], [0], [0, 1], [0, 1, 2, 3], [0, 1, 2, 2], [0, 0, 1], [2, 2, 2], [0, 1, 3],
                 [1, 2, 3], [0, 1, 255], list(range(16))]
        for row in wrong:
            self.each([[0, 1, 2]] * 3, row, 16, [-1])

    def test_most_outside_1_to_16_is_0(self):
        for most in [0, -1, -3, 17, 18, 255, LEAST, HIGHEST]:
            self.each([[0, 1, 2]] * 3, [0, 1, 2], most, [-2])
            self.each([[0]], [0], most, [-2])

    def test_as_many_as_the_people_and_one_less(self):
        for size in range(1, 17):
            row = list(range(size))
            self.each([row] * size, row, size, [size] + row)
            self.each([row] * size, row, size - 1, [-2])

    def test_most_1_and_16(self):
        self.each([[0]], [0], 1, [1, 0])
        self.each([[0]], [0], 16, [1, 0])
        self.each([[0, 1]] * 2, [0, 1], 1, [-2])
        self.each([[0, 1]] * 2, [0, 1], 16, [2, 0, 1])
        row = list(range(16))
        self.each([row] * 16, row, 16, [16] + row)
        self.each([row] * 16, row, 17, [-2])

    def test_wrong_row_comes_ahead_of_most(self):
        for most in [0, 1, 2, 17]:
            self.each([[0, 1, 2]] * 3, [0, 1, 1], most, [-1])
            self.each([[0, 1, 2]] * 3, [0], most, [-1])

    def test_refused_changes_nothing(self):
        for wrong in [trade([0, 0]), trade([1, 0], 1), turns([0]), turns([1, 0], 17)]:
            with self.subTest(wrong=wrong):
                calls = wishes([[1, 0], [1, 0]]) + [wrong, turns([0, 1]), trade([0, 1])]
                self.assertEqual(ask(*calls)[5:], [[2, 1, 0], [2, 0, 1]])


if __name__ == "__main__":
    unittest.main()
