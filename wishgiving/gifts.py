"""How things are given to people by their wishes.

Everywhere here wishes holds for each person all things, the dearest first.
"""


def is_each_once(numbers, size):
    """Whether numbers are all of 0 to size - 1, each once, in whatever order."""
    return sorted(numbers) == list(range(size))


def dearest(things, left):
    """The first of things that is left; left tells of each thing whether it is, or how much."""
    return [thing for thing in things if left[thing]][0]


def taken_in_turn(wishes, order):
    """The gift that comes of it when each takes in turn, by that order."""
    left = [True] * len(order)
    given = [0] * len(order)
    for person in order:
        thing = dearest(wishes[person], left)
        given[person] = thing
        left[thing] = False
    return given


def first_order(wishes, given):
    """Of the orders by which this gift comes in turn the first; [] if there is none."""
    left = [True] * len(given)
    order = []
    while len(order) < len(given):
        ready = [person for person, thing in enumerate(given) if dearest(wishes[person], left) == thing]
        if ready == []:
            return []
        # Whoever is ready stays so, whoever comes next: to take the least person spoils no order.
        order.append(ready[0])
        left[given[ready[0]]] = False
    return order


def is_good(wishes, given):
    """Whether no gift is better than this one.

    That is so just if it comes in turn by some order. If it does, the first of the order can have
    nothing dearer, the next nothing dearer of what that leaves, and so on. If it does not, people
    are left each of whom would rather have another's thing, and some of them could exchange round.
    """
    return first_order(wishes, given) != []


def owners_of(own):
    """For each thing, from 0 on, the person who owns it."""
    owners = [0] * len(own)
    for person, thing in enumerate(own):
        owners[thing] = person
    return owners


def some_ring(wishes, owners, left):
    """People who look round in a ring, each at the next of them, the last at the first."""
    person = owners[left.index(True)]
    walked = []
    while person not in walked:
        walked.append(person)
        person = owners[dearest(wishes[person], left)]
    # Who only leads into the ring is not of it.
    return walked[walked.index(person):]


def exchanged_round(wishes, own):
    """The gift that comes of it when those who own these things exchange them round.

    One ring goes at a time: another ring that is there as well stays as it is till then,
    since nobody of it looks at one who has gone.
    """
    owners = owners_of(own)
    # A thing is left as long as the one who owns it is there.
    left = [True] * len(own)
    given = [0] * len(own)
    while any(left):
        ring = some_ring(wishes, owners, left)
        for person in ring:
            given[person] = dearest(wishes[person], left)
        # Only now: all of a ring look at the same time.
        for person in ring:
            left[own[person]] = False
    return given


def least_group(wishes, own, given):
    """Of the groups that do better by themselves the one with the least number; [] if there is none."""
    owners = owners_of(own)
    looks = []
    for things, thing in zip(wishes, given):
        looks.append([owners[other] for other in things[:things.index(thing) + 1]])
    there = [True] * len(given)
    if not some_do_better(looks, there):
        return []
    # A person's 2 outweighs those of all lesser ones together: the greatest are left out first.
    for person in range(len(given) - 1, -1, -1):
        there[person] = False
        there[person] = not some_do_better(looks, there)
    return [person for person, stays in enumerate(there) if stays]


def some_do_better(looks, there):
    """Whether a group of those who are there does better by itself.

    looks has for each person the owners of what is no less dear to them than what they are given,
    the owner of just that last. A group that does better falls into rings, and in one of them
    somebody has a dearer thing: that ring does better by itself. So such a ring is looked for.
    """
    for person, others in enumerate(looks):
        if person in led_to(looks, others[:-1], there):
            return True
    return False


def led_to(looks, start, there):
    """Of those who are there whom one comes to from start, look by look; start's own as well."""
    found = [person for person in start if there[person]]
    at = 0
    while at < len(found):
        found.extend([person for person in looks[found[at]] if there[person] and person not in found])
        at += 1
    return found


def eaten_shares(wishes):
    """For each person, of each thing, the share that they have eaten, as two numbers in lowest terms."""
    shares = []
    for eaten in eaten_parts(wishes):
        # Everybody has eaten as much as one thing.
        whole = sum(eaten)
        for parts in eaten:
            shares.extend(lowest_terms(parts, whole))
    return shares


def eaten_parts(wishes):
    """For each person, of each thing, how many of its parts they have eaten.

    All things have as many parts. They are cut finer whenever a thing is gone, so that it has been
    eaten in whole parts.
    """
    left = [1] * len(wishes)
    eaten = [[0] * len(wishes) for things in wishes]
    while any(left):
        eating = [dearest(things, left) for things in wishes]
        eaters = [eating.count(thing) for thing in range(len(wishes))]
        gone = first_gone(left, eaters)
        # Cut into as many as eat of it, its parts go round: each gets as many as were left of it.
        finer = eaters[gone]
        each = left[gone]
        left = [left[thing] * finer - eaters[thing] * each for thing in range(len(wishes))]
        eaten = [[parts * finer for parts in row] for row in eaten]
        for person, thing in enumerate(eating):
            eaten[person][thing] += each
    return eaten


def first_gone(left, eaters):
    """Of the things that are being eaten one that is gone first, by what is left and how many eat."""
    first = eaters.index(max(eaters))
    for thing, count in enumerate(eaters):
        # left[thing] / count is less than left[first] / eaters[first], and never if nobody eats of it.
        if left[thing] * eaters[first] < left[first] * count:
            first = thing
    return first


def lowest_terms(parts, whole):
    """The share that parts are of the whole, as two numbers without a common divisor; 0 and 1 of nothing."""
    divisor = whole
    rest = parts
    while rest > 0:
        smaller = divisor % rest
        divisor = rest
        rest = smaller
    return [parts // divisor, whole // divisor]
