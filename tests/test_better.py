"""Promises 7 to 9: good, order and group."""

import random
import unittest

from asking import ask, good, group, last, order, trade, turns, wishes
from by_words import chance_rows, gifts, is_good, least_group, order_of

LEAST = -2147483648
HIGHEST = 2147483647
NOT_EACH_ONCE = [[], [0], [0, 1], [0, 1, 2, 3], [0, 1, 2, 2], [0, 0, 1], [2, 2, 2], [0, 1, 3],
                 [1, 2, 3], [0, 1, 255], list(range(16))]
RING = [[1, 0, 2], [2, 1, 0], [0, 2, 1]]
ALIKE = [[0, 1, 2]] * 3


def all_rows_of_three():
    every = gifts(3)
    return [[first, second, third] for first in every for second in every for third in every]


def group_answer(people):
    if people is None:
        return [0, 0]
    return [1, sum(2 ** person for person in people)]


def turned(row):
    return row[1:] + row[:1]


class Good(unittest.TestCase):
    def good(self, rows, given):
        return last(wishes(rows) + [good(given)])

    def test_one_person(self):
        self.assertEqual(self.good([[0]], [0]), [1])

    def test_two(self):
        self.assertEqual(self.good([[0, 1], [1, 0]], [0, 1]), [1])
        self.assertEqual(self.good([[0, 1], [1, 0]], [1, 0]), [0])
        self.assertEqual(self.good([[0, 1], [0, 1]], [0, 1]), [1])
        self.assertEqual(self.good([[0, 1], [0, 1]], [1, 0]), [1])

    def test_bettered_by_all_together_alone(self):
        self.assertEqual(self.good(RING, [0, 1, 2]), [0])
        self.assertEqual(self.good(RING, [1, 2, 0]), [1])

    def test_bettered_for_two_and_equal_for_the_others(self):
        rows = [[0, 1, 2, 3], [2, 1, 0, 3], [1, 2, 0, 3], [3, 0, 1, 2]]
        self.assertEqual(self.good(rows, [0, 1, 2, 3]), [0])
        self.assertEqual(self.good(rows, [0, 2, 1, 3]), [1])

    def test_one_who_has_less_dear_makes_it_no_better(self):
        rows = [[0, 1, 2], [0, 2, 1], [0, 1, 2]]
        self.assertEqual(self.good(rows, [1, 2, 0]), [1])

    def test_a_round_that_begins_behind_others(self):
        rows = [[1, 0, 2], [2, 1, 0], [1, 2, 0]]
        self.assertEqual(self.good(rows, [0, 1, 2]), [0])

    def test_all_of_three(self):
        for rows in all_rows_of_three():
            told = ask(*wishes(rows), *[good(given) for given in gifts(3)])[5:]
            self.assertEqual(told, [[int(is_good(rows, given))] for given in gifts(3)], rows)

    def test_larger(self):
        chance = random.Random(3)
        for size in [4, 5]:
            for _ in range(60):
                rows = chance_rows(chance, size)
                asked = chance.sample(gifts(size), 15)
                told = ask(*wishes(rows), *[good(given) for given in asked])[size + 2:]
                self.assertEqual(told, [[int(is_good(rows, given))] for given in asked], rows)

    def test_sixteen(self):
        row = list(range(16))
        ring = [[(i + 1) % 16, i] + [j for j in row if j not in [i, (i + 1) % 16]] for i in row]
        self.assertEqual(self.good(ring, row), [0])
        self.assertEqual(self.good(ring, turned(row)), [1])
        self.assertEqual(self.good([row] * 16, turned(row)), [1])

    def test_what_comes_of_trade_and_turns_is_good(self):
        chance = random.Random(4)
        for size in range(2, 17):
            rows = chance_rows(chance, size)
            row = chance.sample(range(size), size)
            for call in [trade, turns]:
                given = last(wishes(rows) + [call(row)])[1:]
                self.assertEqual(self.good(rows, given), [1], (rows, given))

    def test_no_gift(self):
        for given in NOT_EACH_ONCE:
            with self.subTest(given=given):
                self.assertEqual(self.good(ALIKE, given), [-1])

    def test_wishes_anew(self):
        calls = wishes(RING) + [good([0, 1, 2])] + wishes(ALIKE) + [good([0, 1, 2])]
        told = ask(*calls)
        self.assertEqual([told[5], told[11]], [[0], [1]])


class Order(unittest.TestCase):
    def order(self, rows, given, most=16):
        return last(wishes(rows) + [order(given, most)])

    def test_one_person(self):
        self.assertEqual(self.order([[0]], [0], 1), [1, 0])

    def test_the_one_order(self):
        self.assertEqual(self.order(ALIKE, [2, 0, 1]), [3, 1, 2, 0])
        self.assertEqual(self.order(ALIKE, [1, 2, 0]), [3, 2, 0, 1])

    def test_people_and_not_things_stand_in_it(self):
        rows = [[2, 0, 1], [2, 1, 0], [0, 1, 2]]
        self.assertEqual(self.order(rows, [0, 2, 1]), [3, 1, 0, 2])

    def test_the_first_of_several(self):
        self.assertEqual(self.order([[0, 1, 2], [1, 0, 2], [2, 0, 1]], [0, 1, 2]), [3, 0, 1, 2])
        # 1 comes ahead of 0, and 2 anywhere: 1, 0, 2 and 1, 2, 0 and 2, 1, 0.
        self.assertEqual(self.order([[1, 0, 2], [1, 0, 2], [2, 0, 1]], [0, 1, 2]), [3, 1, 0, 2])

    def test_the_lesser_person_comes_as_soon_as_it_can(self):
        # 0 waits for 3, and the lesser 1 and 2 come ahead of 3 all the same.
        rows = [[3, 0, 1, 2], [1, 0, 2, 3], [2, 0, 1, 3], [3, 0, 1, 2]]
        self.assertEqual(self.order(rows, [0, 1, 2, 3]), [4, 1, 2, 3, 0])
        rows = [[1, 0, 2, 3], [1, 0, 2, 3], [2, 0, 1, 3], [3, 0, 1, 2]]
        self.assertEqual(self.order(rows, [0, 1, 2, 3]), [4, 1, 0, 2, 3])

    def test_none(self):
        self.assertEqual(self.order([[1, 0], [0, 1]], [0, 1]), [0])
        self.assertEqual(self.order(RING, [0, 1, 2]), [0])

    def test_none_although_some_could_begin(self):
        rows = [[0, 1, 2], [2, 1, 0], [1, 2, 0]]
        self.assertEqual(self.order(rows, [0, 1, 2]), [0])

    def test_none_whatever_most_is(self):
        for most in [LEAST, -1, 0, 1, 2, 3, 4, 16, 17, 18, HIGHEST]:
            with self.subTest(most=most):
                self.assertEqual(self.order(RING, [0, 1, 2], most), [0])

    def test_no_room(self):
        for most in [LEAST, -3, -1, 0, 1, 2, 17, 18, 255, HIGHEST]:
            with self.subTest(most=most):
                self.assertEqual(self.order(RING, [1, 2, 0], most), [-2])

    def test_as_many_as_the_people_and_one_less(self):
        for size in range(1, 17):
            with self.subTest(size=size):
                row = list(range(size))
                self.assertEqual(self.order([row] * size, row, size), [size] + row)
                self.assertEqual(self.order([row] * size, row, size - 1), [-2])

    def test_no_gift_ahead_of_most(self):
        for given in NOT_EACH_ONCE:
            for most in [0, 2, 3, 16, 17]:
                with self.subTest(given=given, most=most):
                    self.assertEqual(self.order(ALIKE, given, most), [-1])

    def test_all_of_three(self):
        for rows in all_rows_of_three():
            told = ask(*wishes(rows), *[order(given) for given in gifts(3)])[5:]
            for given, answer in zip(gifts(3), told):
                by_words = order_of(rows, given)
                self.assertEqual(answer, [0] if by_words is None else [3] + by_words, (rows, given))

    def test_larger(self):
        chance = random.Random(5)
        for size in [4, 5]:
            for _ in range(40):
                rows = chance_rows(chance, size)
                asked = chance.sample(gifts(size), 15)
                told = ask(*wishes(rows), *[order(given) for given in asked])[size + 2:]
                for given, answer in zip(asked, told):
                    by_words = order_of(rows, given)
                    self.assertEqual(answer, [0] if by_words is None else [size] + by_words, (rows, given))

    def test_gives_what_turns_gave(self):
        chance = random.Random(6)
        for size in range(2, 17):
            rows = chance_rows(chance, size)
            by = chance.sample(range(size), size)
            given = last(wishes(rows) + [turns(by)])[1:]
            answer = self.order(rows, given)
            self.assertEqual(answer[0], size)
            self.assertLessEqual(answer[1:], by)
            self.assertEqual(last(wishes(rows) + [turns(answer[1:])])[1:], given)


class Group(unittest.TestCase):
    def group(self, rows, own, given):
        return last(wishes(rows) + [group(own + given)])

    def test_one_person(self):
        self.assertEqual(self.group([[0]], [0], [0]), [0, 0])

    def test_one_alone(self):
        self.assertEqual(self.group([[0, 1], [0, 1]], [0, 1], [1, 0]), [1, 1])
        self.assertEqual(self.group([[1, 0], [1, 0]], [0, 1], [1, 0]), [1, 2])

    def test_both_together(self):
        self.assertEqual(self.group([[1, 0], [0, 1]], [0, 1], [0, 1]), [1, 3])

    def test_all_together(self):
        self.assertEqual(self.group(RING, [0, 1, 2], [0, 1, 2]), [1, 7])

    def test_none(self):
        self.assertEqual(self.group(RING, [0, 1, 2], [1, 2, 0]), [0, 0])
        self.assertEqual(self.group(ALIKE, [2, 0, 1], [2, 0, 1]), [0, 0])

    def test_one_of_it_has_what_is_no_dearer(self):
        # 0 has 0 of 1, which is given to 0 as well, and 1 has 1 of 0, which is dearer.
        rows = [[0, 1, 2], [1, 2, 0], [2, 0, 1]]
        self.assertEqual(self.group(rows, [1, 0, 2], [0, 2, 1]), [1, 3])

    def test_nobody_has_what_is_dearer(self):
        rows = [[0, 1], [1, 0]]
        self.assertEqual(self.group(rows, [0, 1], [0, 1]), [0, 0])
        self.assertEqual(self.group(rows, [1, 0], [0, 1]), [0, 0])

    def test_the_least_number_and_not_the_fewest(self):
        # 0, 1 and 2 together (7), or 3 alone (8).
        rows = [[1, 0, 2, 3], [2, 1, 0, 3], [0, 2, 1, 3], [3, 0, 1, 2]]
        self.assertEqual(self.group(rows, [0, 1, 2, 3], [0, 1, 2, 3]), [1, 7])
        rows = [[1, 3, 0, 2], [2, 1, 0, 3], [0, 2, 1, 3], [3, 0, 1, 2]]
        self.assertEqual(self.group(rows, [0, 1, 2, 3], [3, 1, 2, 0]), [1, 7])
        rows = [[3, 1, 0, 2], [2, 1, 0, 3], [0, 2, 1, 3], [3, 0, 1, 2]]
        self.assertEqual(self.group(rows, [0, 1, 2, 3], [3, 1, 2, 0]), [1, 8])

    def test_the_least_of_two_apart(self):
        rows = [[1, 0, 2, 3], [0, 1, 2, 3], [3, 2, 0, 1], [2, 3, 0, 1]]
        self.assertEqual(self.group(rows, [0, 1, 2, 3], [0, 1, 2, 3]), [1, 3])
        self.assertEqual(self.group(rows, [0, 1, 2, 3], [1, 0, 2, 3]), [1, 12])

    def test_owned_stands_ahead_of_given(self):
        rows = [[0, 1], [0, 1]]
        self.assertEqual(self.group(rows, [0, 1], [1, 0]), [1, 1])
        self.assertEqual(self.group(rows, [1, 0], [0, 1]), [1, 2])

    def test_all_of_three(self):
        for rows in all_rows_of_three():
            pairs = [(own, given) for own in gifts(3) for given in gifts(3)]
            told = ask(*wishes(rows), *[group(own + given) for own, given in pairs])[5:]
            for (own, given), answer in zip(pairs, told):
                self.assertEqual(answer, group_answer(least_group(rows, own, given)), (rows, own, given))

    def test_larger(self):
        chance = random.Random(7)
        for size in [4, 5]:
            for _ in range(150):
                rows = chance_rows(chance, size)
                own = chance.sample(range(size), size)
                given = chance.sample(range(size), size)
                if chance.random() < 0.5:
                    given = last(wishes(rows) + [turns(given)])[1:]
                by_words = group_answer(least_group(rows, own, given))
                self.assertEqual(self.group(rows, own, given), by_words, (rows, own, given))

    def test_sixteen(self):
        row = list(range(16))
        ring = [[(i + 1) % 16, i] + [j for j in row if j not in [i, (i + 1) % 16]] for i in row]
        self.assertEqual(self.group(ring, row, row), [1, 65535])
        self.assertEqual(self.group(ring, row, turned(row)), [0, 0])
        alone = [[i] + [j for j in row if j != i] for i in row]
        self.assertEqual(self.group(alone, row, row[:15] + [15]), [0, 0])
        self.assertEqual(self.group(alone, row, row[:14] + [15, 14]), [1, 16384])

    def test_none_does_better_than_trade(self):
        chance = random.Random(8)
        for size in range(2, 17):
            rows = chance_rows(chance, size)
            own = chance.sample(range(size), size)
            given = last(wishes(rows) + [trade(own)])[1:]
            self.assertEqual(self.group(rows, own, given), [0, 0], (rows, own))

    def test_not_two_gifts(self):
        gift = [2, 0, 1]
        wrong = [gift + row for row in NOT_EACH_ONCE] + [row + gift for row in NOT_EACH_ONCE]
        wrong += [[0, 0, 1, 1, 2, 2], [0, 1, 3, 2, 0, 1], gift + gift + gift, [0, 1, 2, 2, 1],
                  gift + gift + [0], [255] * 6, list(range(6)), list(range(16)) * 2]
        for both in [[]] + wrong:
            with self.subTest(both=both):
                self.assertEqual(last(wishes(ALIKE) + [group(both)]), [-1])

    def test_not_two_gifts_of_one_person(self):
        for both in [[], [0], [0, 1], [1, 0], [1, 1], [0, 0, 0]]:
            with self.subTest(both=both):
                self.assertEqual(last(wishes([[0]]) + [group(both)]), [-1])


class NothingChanges(unittest.TestCase):
    def test_answered_or_refused(self):
        asked = [good([0, 1, 2]), order([1, 2, 0]), group([0, 1, 2, 0, 1, 2])]
        told = [[0], [3, 0, 1, 2], [1, 7]]
        wrong = [good([0]), order([0, 0, 0]), order([1, 2, 0], 2), group([0, 1, 2])]
        calls = wishes(RING) + asked + wrong + asked + [turns([2, 1, 0])]
        self.assertEqual(ask(*calls)[5:], told + [[-1], [-1], [-2], [-1]] + told + [[3, 1, 2, 0]])


if __name__ == "__main__":
    unittest.main()
