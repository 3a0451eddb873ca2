"""What is answered, done the slow way, as near to the document's words as it goes.

rows holds for each person all things, the dearest first.
"""

import itertools
from fractions import Fraction


def gifts(size):
    """All gifts, and all orders, of so many; those come first that have the lesser number first."""
    return [list(each) for each in itertools.permutations(range(size))]


def groups(size):
    """All groups of so many people, by their numbers."""
    return [[person for person in range(size) if number >> person & 1] for number in range(1, 1 << size)]


def chance_rows(chance, size):
    return [chance.sample(range(size), size) for _ in range(size)]


def taken(rows, order):
    """What is taken in turn by that order."""
    given = {}
    for person in order:
        given[person] = next(thing for thing in rows[person] if thing not in given.values())
    return [given[person] for person in range(len(rows))]


def exchanged(rows, own):
    """What is exchanged round, all rings that are there at a time."""
    there = set(range(len(rows)))
    given = [None] * len(rows)
    while there:
        owner = {own[person]: person for person in there}
        look = {person: owner[next(thing for thing in rows[person] if thing in owner)] for person in there}
        for person in list(there):
            seen = look[person]
            for _ in range(len(rows)):
                if seen == person:
                    given[person] = own[look[person]]
                    there.discard(person)
                seen = look[seen]
    return given


def betters(rows, people, new, old):
    """Whether of these people nobody has less dear by new than by old, and somebody dearer."""
    pairs = [(rows[i].index(new[i]), rows[i].index(old[i])) for i in people]
    return all(now <= once for now, once in pairs) and any(now < once for now, once in pairs)


def is_good(rows, given):
    return not any(betters(rows, range(len(rows)), new, given) for new in gifts(len(rows)))


def order_of(rows, given):
    """The first order by which the gift comes in turn, or None."""
    return next((order for order in gifts(len(rows)) if taken(rows, order) == given), None)


def does_better(rows, people, own, given):
    """Whether the group of these people does better by itself."""
    shared = itertools.permutations([own[person] for person in people])
    return any(betters(rows, people, dict(zip(people, things)), given) for things in shared)


def least_group(rows, own, given):
    """The group with the least number that does better by itself, or None."""
    return next((some for some in groups(len(rows)) if does_better(rows, some, own, given)), None)


def eaten(rows):
    """For each person, of each thing, what they have eaten, as fractions."""
    left = [Fraction(1)] * len(rows)
    shares = [[Fraction(0)] * len(rows) for _ in rows]
    while any(left):
        eating = [next(thing for thing in row if left[thing]) for row in rows]
        pause = min(left[thing] / eating.count(thing) for thing in eating)
        for person, thing in enumerate(eating):
            shares[person][thing] += pause
            left[thing] -= pause
    return shares


def eaten_numbers(rows):
    return [number for row in eaten(rows) for share in row for number in share.as_integer_ratio()]
