"""Answers the calls on one set of people who are given things by their wishes."""

from wishgiving.gifts import eaten_shares, exchanged_round, first_order, is_each_once
from wishgiving.gifts import is_good, least_group, taken_in_turn

BEGIN = 0
PEOPLE = 1
WISH = 2
TRADE = 3
TURNS = 4
GOOD = 5
ORDER = 6
GROUP = 7
EAT = 8

# For each call's number: whether a whole number stands behind it, and whether a row does.
HAS_VALUE = (False, True, True, True, True, False, True, False, True)
HAS_ROW = (False, False, True, True, True, True, True, True, False)

DONE = 0
WRONG = -1
NO_ROOM = -2
NOT_KNOWN = -3
NOBODY_THERE = -4

MOST_PEOPLE = 16
MOST_EATERS = 8
MOST_SHARE_NUMBERS = 128


class Circle:
    """The people who are there: for each their wishes, None as long as they are not known."""

    def __init__(self):
        self.wishes = []

    def gather(self, size):
        """From now on there are this many people, and no wishes are known."""
        self.wishes = [None] * size

    def size(self):
        """How many people there are."""
        return len(self.wishes)

    def all_known(self):
        """Whether everybody's wishes are known."""
        return None not in self.wishes


def answers(calls):
    """For each call, in order: how many numbers are answered, then these."""
    circle = Circle()
    told = []
    for number, value, row in taken_apart(calls):
        answer = answer_to(circle, number, value, row)
        told.append(len(answer))
        told.extend(answer)
    return told


def taken_apart(calls):
    """Each call as its number, its whole number (0 without one) and its row ([] without one)."""
    parts = []
    at = 0
    while at < len(calls):
        number = calls[at]
        at += 1
        value = 0
        if HAS_VALUE[number]:
            value = calls[at]
            at += 1
        row = []
        if HAS_ROW[number]:
            end = at + 1 + calls[at]
            row = calls[at + 1:end]
            at = end
        parts.append((number, value, row))
    return parts


def answer_to(circle, number, value, row):
    """The numbers that one call answers."""
    if number == BEGIN:
        return answer_begin(circle)
    if number == PEOPLE:
        return answer_people(circle, value)
    if circle.size() == 0:
        return [NOBODY_THERE]
    if number == WISH:
        return answer_wish(circle, value, row)
    if not circle.all_known():
        return [NOT_KNOWN]
    if number == TRADE:
        return answer_trade(circle, row, value)
    if number == TURNS:
        return answer_turns(circle, row, value)
    if number == GOOD:
        return answer_good(circle, row)
    if number == ORDER:
        return answer_order(circle, row, value)
    if number == GROUP:
        return answer_group(circle, row)
    return answer_eat(circle, value)


def answer_begin(circle):
    """Nobody is there."""
    circle.gather(0)
    return [DONE]


def answer_people(circle, size):
    """That many people are there from now on."""
    if not 1 <= size <= MOST_PEOPLE:
        return [WRONG]
    circle.gather(size)
    return [DONE]


def answer_wish(circle, person, things):
    """These are that person's wishes from now on."""
    if not 0 <= person < circle.size():
        return [WRONG]
    if not is_each_once(things, circle.size()):
        return [WRONG]
    circle.wishes[person] = things
    return [DONE]


def answer_trade(circle, own, most):
    """What is exchanged round, from what each owns."""
    refusal = refusal_of(circle, own, most)
    if refusal < 0:
        return [refusal]
    return [circle.size()] + exchanged_round(circle.wishes, own)


def answer_turns(circle, order, most):
    """What is taken in turn by that order."""
    refusal = refusal_of(circle, order, most)
    if refusal < 0:
        return [refusal]
    return [circle.size()] + taken_in_turn(circle.wishes, order)


def answer_good(circle, given):
    """1 if no gift is better than this one, else 0."""
    if not is_each_once(given, circle.size()):
        return [WRONG]
    if is_good(circle.wishes, given):
        return [1]
    return [0]


def answer_order(circle, given, most):
    """The first order by which the gift comes in turn, or 0 alone."""
    if not is_each_once(given, circle.size()):
        return [WRONG]
    order = first_order(circle.wishes, given)
    # For 0 alone there is room whatever most is.
    if len(order) > room_within(most, MOST_PEOPLE):
        return [NO_ROOM]
    return [len(order)] + order


def answer_group(circle, both):
    """1 and the number of the least group that does better by itself; 0 and 0 if there is none."""
    own = both[:circle.size()]
    given = both[circle.size():]
    if not is_each_once(own, circle.size()) or not is_each_once(given, circle.size()):
        return [WRONG]
    group = least_group(circle.wishes, own, given)
    if group == []:
        return [0, 0]
    return [1, sum([1 << person for person in group])]


def answer_eat(circle, most):
    """How many numbers the shares have, then the shares that everybody has eaten."""
    if circle.size() > MOST_EATERS:
        return [WRONG]
    shares = eaten_shares(circle.wishes)
    if len(shares) > room_within(most, MOST_SHARE_NUMBERS):
        return [NO_ROOM]
    return [len(shares)] + shares


def refusal_of(circle, row, most):
    """The refusal of a row that is no gift or order, or has no room within most; else 0."""
    if not is_each_once(row, circle.size()):
        return WRONG
    if circle.size() > room_within(most, MOST_PEOPLE):
        return NO_ROOM
    return 0


def room_within(most, highest):
    """For how much there is room: most, but none if most is outside 1 to highest."""
    if 1 <= most <= highest:
        return most
    return 0
