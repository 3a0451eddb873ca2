"""The whole program: sequences of all calls on up to five people, against answers by the words."""

import random
import unittest

import by_words
from asking import ask, begin, eat, good, group, joined, order, people, trade, turns, wish, wishes
from wishgiving.giving import answers

LEAST = -2147483648
HIGHEST = 2147483647


class Slow:
    """Who is there and what they wish, with an answer to each call by the document's words."""

    def __init__(self):
        self.rows = []

    def answer(self, call):
        number = call[0]
        if number == 0:
            self.rows = []
            return [0]
        if number == 1:
            return self.people(call[1])
        if not self.rows:
            return [-4]
        if number == 2:
            return self.wish(call[1], call[3:])
        if None in self.rows:
            return [-3]
        if number in [3, 4]:
            return self.given(number, call[1], call[3:])
        if number == 5:
            return [int(by_words.is_good(self.rows, call[2:]))] if self.is_gift(call[2:]) else [-1]
        if number == 6:
            return self.order(call[1], call[3:])
        if number == 7:
            return self.group(call[2:])
        return self.eat(call[1])

    def is_gift(self, row):
        return len(row) == len(self.rows) and set(row) == set(range(len(self.rows)))

    def people(self, size):
        if size < 1 or size > 16:
            return [-1]
        self.rows = [None] * size
        return [0]

    def wish(self, person, things):
        if person not in range(len(self.rows)) or not self.is_gift(things):
            return [-1]
        self.rows[person] = things
        return [0]

    def given(self, number, most, row):
        if not self.is_gift(row):
            return [-1]
        if most not in range(len(row), 17):
            return [-2]
        given = by_words.exchanged if number == 3 else by_words.taken
        return [len(row)] + given(self.rows, row)

    def order(self, most, given):
        if not self.is_gift(given):
            return [-1]
        first = by_words.order_of(self.rows, given)
        if first is None:
            return [0]
        return [len(first)] + first if most in range(len(first), 17) else [-2]

    def group(self, both):
        own = both[:len(self.rows)]
        given = both[len(self.rows):]
        if not self.is_gift(own) or not self.is_gift(given):
            return [-1]
        some = by_words.least_group(self.rows, own, given)
        return [0, 0] if some is None else [1, sum(2 ** person for person in some)]

    def eat(self, most):
        if len(self.rows) > 8:
            return [-1]
        count = 2 * len(self.rows) * len(self.rows)
        return [count] + by_words.eaten_numbers(self.rows) if most in range(count, 129) else [-2]


class Chance:
    """Calls by chance, most of them such as are answered where this many people are there."""

    def __init__(self, seed):
        self.chance = random.Random(seed)
        self.size = 0

    def row(self):
        row = self.chance.sample(range(self.size), self.size)
        if self.chance.random() < 0.1:
            place = self.chance.randrange(len(row) + 1)
            row[place:place + 1] = self.chance.choices([0, 1, 2, 5, 16, 255], k=self.chance.randrange(3))
        return row

    def most(self, fit):
        others = [LEAST, -1, 0, 1, fit - 1, fit, fit + 1, 16, 17, 128, 129, HIGHEST]
        return fit if self.chance.random() < 0.7 else self.chance.choice(others)

    def person(self):
        return self.chance.choice([LEAST, -1, self.size, 16, HIGHEST])

    def gathered(self):
        self.size = self.chance.randrange(1, 6)
        calls = [begin()] * self.chance.randrange(2) + [people(self.size)]
        calls += [wish(i, self.row()) for i in self.chance.sample(range(self.size), self.size)]
        return calls

    def asked(self):
        size = self.size
        return self.chance.choice([
            [people(self.chance.choice([LEAST, -1, 0, 17, 255, HIGHEST]))],
            [wish(self.chance.randrange(size), self.row())],
            [wish(self.person(), self.row())],
            [trade(self.row(), self.most(size))],
            [turns(self.row(), self.most(size))],
            [good(self.row())],
            [order(self.row(), self.most(size))],
            [group(self.row() + self.row())],
            [eat(self.most(2 * size * size))],
        ])

    def line(self, count):
        calls = [begin()] + self.gathered()
        while len(calls) < count:
            calls += self.gathered() if self.chance.random() < 0.04 else self.asked()
        return calls[:count]


class Sequences(unittest.TestCase):
    def test_all_calls_by_the_words(self):
        seen = {}
        for seed in range(60):
            calls = Chance(seed).line(80)
            slow = Slow()
            told = ask(*calls)
            for at, (call, answer) in enumerate(zip(calls, told)):
                self.assertEqual(answer, slow.answer(call), (seed, at, call))
                seen[call[0], min(answer[0], 2)] = True
        # Each call is answered, and refused in each way that it can be.
        asked = [(0, 0), (1, 0), (1, -1), (2, 0), (2, -1), (3, -1), (3, -2), (3, -3), (3, 2), (4, -1), (4, -2),
                 (4, -3), (4, 2), (5, 0), (5, 1), (5, -1), (5, -3), (6, 0), (6, 2), (6, -1), (6, -2), (6, -3),
                 (7, 0), (7, 1), (7, -1), (7, -3), (8, 2), (8, -2), (8, -3)]
        self.assertEqual([each for each in asked if each not in seen], [])

    def test_refused_calls_change_nothing(self):
        for seed in range(20):
            calls = Chance(seed).line(120)
            kept = [(call, answer) for call, answer in zip(calls, ask(*calls)) if answer[0] >= 0]
            self.assertEqual(ask(*[call for call, answer in kept]), [answer for call, answer in kept], seed)

    def test_lines_know_nothing_of_one_another(self):
        lines = [joined(Chance(seed).line(60)) for seed in range(10)]
        once = [answers(line) for line in lines]
        self.assertEqual([answers(line) for line in reversed(lines)], once[::-1])

    def test_nothing_is_left_behind_begin(self):
        before = wishes([[1, 0, 2], [0, 1, 2], [0, 2, 1]])
        for size in [1, 2, 3, 4, 5]:
            row = list(range(size))
            after = wishes([row] * size) + [trade(row), turns(row), good(row), order(row), group(row + row), eat()]
            self.assertEqual(ask(*before, *after)[len(before):], ask(*after))
            self.assertEqual(ask(*before, *after[1:])[len(before):], ask(*after)[1:])

    def test_what_is_handed_in_stays(self):
        for seed in range(10):
            calls = joined(Chance(seed).line(100))
            before = list(calls)
            answers(calls)
            self.assertEqual(calls, before)

    def test_400_calls_of_each_kind(self):
        row = [4, 2, 0, 1, 3]
        start = wishes([row, row[::-1], row, row[::-1], row])
        for call in [trade(row), turns(row), good(row), order(row), group(row + row), eat()]:
            with self.subTest(call=call):
                told = ask(*start, *[call] * (400 - len(start)))
                self.assertEqual(told[len(start):], [told[-1]] * (400 - len(start)))


if __name__ == "__main__":
    unittest.main()
