"""Promise 10: eat."""

import random
import unittest
from fractions import Fraction
from math import gcd

from asking import ask, begin, eat, last, people, turns, wish, wishes
from by_words import chance_rows, eaten_numbers, gifts

LEAST = -2147483648
HIGHEST = 2147483647


def shares_of(numbers, size):
    """For each person, of each thing, the share as a fraction."""
    shares = [Fraction(numbers[at], numbers[at + 1]) for at in range(0, len(numbers), 2)]
    return [shares[at:at + size] for at in range(0, len(shares), size)]


def eaten_till(rows, shares, person, thing):
    """How much that person has eaten of what is no less dear to them than that thing."""
    things = rows[person]
    return sum(shares[person][each] for each in things[:things.index(thing) + 1])


class Eat(unittest.TestCase):
    def eaten(self, rows):
        """The numbers behind the first, which are fit to be shares."""
        answer = last(wishes(rows) + [eat(128)])
        numbers = answer[1:]
        self.assertEqual(answer[0], 2 * len(rows) * len(rows))
        self.assertEqual(len(numbers), answer[0])
        for at in range(0, len(numbers), 2):
            self.assertEqual(gcd(numbers[at], numbers[at + 1]), 1)
            self.assertGreaterEqual(numbers[at], 0)
            self.assertGreater(numbers[at + 1], 0)
        return numbers

    def test_one_person(self):
        self.assertEqual(last(wishes([[0]]) + [eat()]), [2, 1, 1])

    def test_all_wish_alike(self):
        for size in range(1, 9):
            with self.subTest(size=size):
                row = list(reversed(range(size)))
                self.assertEqual(self.eaten([row] * size), [1, size] * (size * size))

    def test_everybody_has_the_dearest(self):
        told = [0, 1, 0, 1, 1, 1, 1, 1, 0, 1, 0, 1, 0, 1, 1, 1, 0, 1]
        self.assertEqual(self.eaten([[2, 0, 1], [0, 1, 2], [1, 2, 0]]), told)

    def test_two_things_gone_at_a_time(self):
        rows = [[0, 1, 2, 3], [0, 1, 2, 3], [1, 0, 3, 2], [1, 0, 3, 2]]
        first = [1, 2, 0, 1, 1, 2, 0, 1]
        second = [0, 1, 1, 2, 0, 1, 1, 2]
        self.assertEqual(self.eaten(rows), first + first + second + second)

    def test_things_gone_at_different_times(self):
        # 0 is gone at 1/2; then 0 helps 2 with thing 1, of which half is left: gone at 3/4.
        rows = [[0, 1, 2], [0, 2, 1], [1, 0, 2]]
        told = [1, 2, 1, 4, 1, 4, 1, 2, 0, 1, 1, 2, 0, 1, 3, 4, 1, 4]
        self.assertEqual(self.eaten(rows), told)

    def test_thirds_and_ninths(self):
        # 0 is gone at 1/3. Then two eat of 1, of which 2/3 are left: gone at 2/3. Then three eat of
        # 2, of which 2/3 are left as well: gone at 8/9. The last 1/9 all four eat of 3.
        rows = [[0, 1, 2, 3], [0, 2, 1, 3], [0, 3, 1, 2], [1, 0, 2, 3]]
        told = [1, 3, 1, 3, 2, 9, 1, 9]
        told += [1, 3, 0, 1, 5, 9, 1, 9]
        told += [1, 3, 0, 1, 0, 1, 2, 3]
        told += [0, 1, 2, 3, 2, 9, 1, 9]
        self.assertEqual(self.eaten(rows), told)

    def test_all_of_three(self):
        every = gifts(3)
        for first in every:
            for second in every:
                for third in every:
                    rows = [first, second, third]
                    self.assertEqual(self.eaten(rows), eaten_numbers(rows), rows)

    def test_larger(self):
        chance = random.Random(9)
        for size in [4, 5, 6, 7, 8]:
            for _ in range(60):
                rows = chance_rows(chance, size)
                self.assertEqual(self.eaten(rows), eaten_numbers(rows), rows)

    def test_nobody_goes_on_while_something_is_left_of_the_dearer(self):
        chance = random.Random(10)
        for size in [3, 4, 5, 8]:
            for _ in range(30):
                rows = chance_rows(chance, size)
                shares = shares_of(self.eaten(rows), size)
                self.assertEqual([sum(row) for row in shares], [1] * size)
                self.assertEqual([sum(column) for column in zip(*shares)], [1] * size)
                for thing in range(size):
                    times = [eaten_till(rows, shares, person, thing) for person in range(size)]
                    gone = [times[person] for person in range(size) if shares[person][thing] > 0]
                    # Who eats of it does so no longer than all others have what is as dear to them.
                    self.assertLessEqual(max(gone), min(times), (rows, thing))

    def test_changes_nothing(self):
        rows = [[0, 1], [0, 1]]
        told = [8] + [1, 2] * 4
        self.assertEqual(ask(*wishes(rows), eat(8), eat(7), eat(8), turns([1, 0]))[4:],
                         [told, [-2], told, [2, 1, 0]])

    def test_wishes_anew(self):
        calls = wishes([[0, 1], [0, 1]]) + [eat(), wish(0, [1, 0]), eat()]
        self.assertEqual(ask(*calls)[4:], [[8] + [1, 2] * 4, [0], [8, 0, 1, 1, 1, 1, 1, 0, 1]])


class Refused(unittest.TestCase):
    def asked(self, size, most):
        return last(wishes([list(range(size))] * size) + [eat(most)])

    def test_as_many_as_there_are_and_one_less(self):
        for size in range(1, 9):
            with self.subTest(size=size):
                count = 2 * size * size
                self.assertEqual(self.asked(size, count), [count] + [1, size] * (size * size))
                self.assertEqual(self.asked(size, count - 1), [-2])

    def test_most_128_has_room_for_all(self):
        for size in range(1, 9):
            with self.subTest(size=size):
                self.assertEqual(self.asked(size, 128)[0], 2 * size * size)

    def test_most_outside_1_to_128_is_0(self):
        for most in [LEAST, -128, -8, -1, 0, 129, 130, 256, HIGHEST]:
            for size in [1, 2, 5, 8]:
                with self.subTest(size=size, most=most):
                    self.assertEqual(self.asked(size, most), [-2])

    def test_most_1_is_too_little_for_all(self):
        self.assertEqual(self.asked(1, 1), [-2])
        self.assertEqual(self.asked(1, 2), [2, 1, 1])

    def test_more_than_8_people_ahead_of_most(self):
        for size in range(9, 17):
            for most in [0, 1, 127, 128, 129]:
                with self.subTest(size=size, most=most):
                    self.assertEqual(self.asked(size, most), [-1])

    def test_not_known_ahead_of_more_than_8_people(self):
        self.assertEqual(last([begin(), people(9), eat(0)]), [-3])
        self.assertEqual(last([begin(), people(8), eat(0)]), [-3])


if __name__ == "__main__":
    unittest.main()
