"""Couples told apart by their marks, column by column."""


def standings(marks, couples):
    """Of one couple, column by column from 1 on: how many marks are up to it, below zero, and their sum."""
    # Below zero, so that more marks compare as less: of two couples the lesser standings are before.
    number = 0
    total = 0
    table = []
    for column in range(1, couples + 1):
        here = marks.count(column)
        number += here
        total += here * column
        table.append((-number, total))
    return table


def has_majority(table, column):
    """Whether more than half of all the couple's marks are up to the column."""
    # Up to the last column stand all the marks there are.
    return 2 * table[column - 1][0] < table[-1][0]


def leaders(tables, waiting, column):
    """Those of the waiting couples that none of them is before, from the column on."""
    best = min([tables[couple][column - 1:] for couple in waiting])
    return [couple for couple in waiting if tables[couple][column - 1:] == best]


def middle_place(place, sharing):
    """Twice the middle of as many places, from this one on, as couples share them."""
    return 2 * place + sharing - 1


def couple_table(rows, couple, couples):
    """The standings of one couple in these rows, of one dance or of several."""
    return standings([row[couple] for row in rows], couples)


def dance_places(rows, couples):
    """Of each couple its place in a dance, twice as big, from the rows of all judges."""
    tables = [couple_table(rows, couple, couples) for couple in range(couples)]
    places = [0] * couples
    place = 1
    for column in range(1, couples + 1):
        unplaced = [couple for couple in range(couples) if places[couple] == 0]
        waiting = [couple for couple in unplaced if has_majority(tables[couple], column)]
        while len(waiting) > 0:
            best = leaders(tables, waiting, column)
            for couple in best:
                places[couple] = middle_place(place, len(best))
            place += len(best)
            waiting = [couple for couple in waiting if places[couple] == 0]
    return places
