"""Calls written as lists of numbers, and answers taken apart again, for the tests."""

from dancejudged.contest import answers


def start(couples, judges, dances):
    return [0, couples, judges, dances]


def mark(dance, judge, places):
    return [1, dance, judge, len(places)] + list(places)


def dance(number):
    return [2, number]


def total(couple):
    return [3, couple]


def final():
    return [4]


def missing():
    return [5]


def marks(number, rows):
    """The calls that tell all rows of a dance, judge by judge."""
    return [mark(number, judge, row) for judge, row in enumerate(rows)]


def contest(dances):
    """The calls that start a contest and tell all rows of its dances."""
    calls = [start(len(dances[0][0]), len(dances[0]), len(dances))]
    for number, rows in enumerate(dances):
        calls += marks(number, rows)
    return calls


def agreed(*rows):
    """The dances of a contest in which three judges agree on one row each."""
    return [[row] * 3 for row in rows]


def ask(*calls):
    """The answers to the calls, one list for each."""
    line = [number for call in calls for number in call]
    told = answers(line)
    parted = []
    at = 0
    while at < len(told):
        parted.append(told[at + 1:at + 1 + told[at]])
        at += 1 + told[at]
    return parted


def asked_of(dances, *calls):
    """What is answered to the calls, where all rows of the dances are told."""
    return ask(*contest(dances), *calls)[-len(calls):]


def places_of(rows):
    """What is answered to dance, where these rows are told of the one dance."""
    return asked_of([rows], dance(0))[0]


def final_of(dances):
    """What is answered to final, where all rows of the dances are told."""
    return asked_of(dances, final())[0]


def totals_of(dances):
    """What is answered to total, of each couple, where all rows of the dances are told."""
    return [told[0] for told in asked_of(dances, *[total(couple) for couple in range(len(dances[0][0]))])]
