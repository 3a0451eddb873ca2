"""Calls as the tests write them, and the answers to them, one list a call."""

from wishgiving.giving import answers


def begin():
    return [0]


def people(n):
    return [1, n]


def wish(person, things):
    return [2, person, len(things)] + list(things)


def trade(own, most=16):
    return [3, most, len(own)] + list(own)


def turns(order, most=16):
    return [4, most, len(order)] + list(order)


def good(given):
    return [5, len(given)] + list(given)


def order(given, most=16):
    return [6, most, len(given)] + list(given)


def group(both):
    return [7, len(both)] + list(both)


def eat(most=128):
    return [8, most]


def wishes(rows):
    """The calls by which as many people as rows are there and wish as these say."""
    return [begin(), people(len(rows))] + [wish(i, row) for i, row in enumerate(rows)]


def joined(calls):
    """The calls as the one list that is handed in."""
    return [number for call in calls for number in call]


def ask(*calls):
    """For each of these calls the list of its answer's numbers."""
    told = answers(joined(calls))
    parts = []
    at = 0
    while at < len(told):
        count = told[at]
        parts.append(told[at + 1:at + 1 + count])
        at += 1 + count
    assert at == len(told), "a count goes beyond the end"
    assert len(parts) == len(calls), "not one answer a call"
    return parts


def last(calls):
    """The answer to the last of these calls."""
    return ask(*calls)[-1]
