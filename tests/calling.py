"""Calls written as lists of numbers, and answers taken apart again, for the tests."""

from dancejudged.contest import answers


def start(couples, judges, dances):
    return [0, couples, judges, dances]


def mark(dance, judge, places):
    return [1, dance, judge, len(places)] + list(places)


def dance(number):
    return [2, number]


def marks(number, rows):
    """The calls that tell all rows of a dance, judge by judge."""
    return [mark(number, judge, row) for judge, row in enumerate(rows)]


def ask(*calls):
    """The answers to the calls, one list for each."""
    line = [number for call in calls for number in call]
    told = answers(line)
    parted = []
    at = 0
    while at < len(told):
        parted.append(told[at + 1:at + 1 + told[at]])
        at += 1 + told[at]
    return parted


def places_of(rows):
    """What is answered to dance, where these rows are told of the one dance."""
    calls = [start(len(rows[0]), len(rows), 1)] + marks(0, rows) + [dance(0)]
    return ask(*calls)[-1]
