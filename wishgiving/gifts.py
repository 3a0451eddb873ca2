"""How things are given to people by their wishes.

Everywhere here wishes holds for each person all things, the dearest first.
"""


def is_each_once(numbers, size):
    """Whether numbers are all of 0 to size - 1, each once, in whatever order."""
    return sorted(numbers) == list(range(size))


def dearest(things, left):
    """The first of things that is left; left tells of each thing whether it is."""
    return [thing for thing in things if left[thing]][0]


def taken_in_turn(wishes, order):
    """The gift that comes of it when each takes in turn, by that order."""
    left = [True] * len(order)
    given = [0] * len(order)
    for person in order:
        thing = dearest(wishes[person], left)
        given[person] = thing
        left[thing] = False
    return given


def owners_of(own):
    """For each thing, from 0 on, the person who owns it."""
    owners = [0] * len(own)
    for person, thing in enumerate(own):
        owners[thing] = person
    return owners


def some_ring(wishes, owners, left):
    """People who look round in a ring, each at the next of them, the last at the first."""
    person = owners[left.index(True)]
    walked = []
    while person not in walked:
        walked.append(person)
        person = owners[dearest(wishes[person], left)]
    # Who only leads into the ring is not of it.
    return walked[walked.index(person):]


def exchanged_round(wishes, own):
    """The gift that comes of it when those who own these things exchange them round.

    One ring goes at a time: another ring that is there as well stays as it is till then,
    since nobody of it looks at one who has gone.
    """
    owners = owners_of(own)
    # A thing is left as long as the one who owns it is there.
    left = [True] * len(own)
    given = [0] * len(own)
    while any(left):
        ring = some_ring(wishes, owners, left)
        for person in ring:
            given[person] = dearest(wishes[person], left)
        # Only now: all of a ring look at the same time.
        for person in ring:
            left[own[person]] = False
    return given
