"""What one contest keeps: its sizes, and the rows told by the judges."""

from dancejudged.columns import dance_places
from dancejudged.overall import couple_total, final_places

NO_SUCH = -2
ROW_MISSING = -11
NOT_AS_TOLD = -22


def sizes_fit(couples, judges, dances):
    """Whether a contest may have so many couples, judges and dances."""
    if couples < 2 or couples > 12:
        return False
    if judges < 3 or judges > 15 or judges % 2 == 0:
        return False
    return dances >= 1 and dances <= 5


def is_row(places, couples):
    """Whether the places are those from 1 to the number of couples, each once."""
    return sorted(places) == list(range(1, couples + 1))


# Each call is answered by a list, as a refusal stands alone while places have a number for each couple behind the 0.
class Board:
    def __init__(self):
        self.couples = 0
        self.judges = 0
        self.dances = 0
        self.rows = {}

    def start(self, couples, judges, dances):
        if not sizes_fit(couples, judges, dances):
            return [NOT_AS_TOLD]
        self.couples = couples
        self.judges = judges
        self.dances = dances
        self.rows = {}
        return [0]

    def mark(self, dance, judge, places):
        if dance >= self.dances or judge >= self.judges:
            return [NO_SUCH]
        if not is_row(places, self.couples):
            return [NOT_AS_TOLD]
        self.rows[(dance, judge)] = list(places)
        return [self.rows_missing()]

    def dance(self, dance):
        if dance >= self.dances:
            return [NO_SUCH]
        rows = self.rows_of(dance)
        if len(rows) < self.judges:
            return [ROW_MISSING]
        return [0] + dance_places(rows, self.couples)

    def total(self, couple):
        if couple >= self.couples:
            return [NO_SUCH]
        if self.rows_missing() > 0:
            return [ROW_MISSING]
        return [couple_total(self.places_by_dance(), couple)]

    def final(self):
        if self.rows_missing() > 0:
            return [ROW_MISSING]
        return [0] + final_places(self.places_by_dance(), list(self.rows.values()), self.couples)

    def missing(self):
        return [self.rows_missing()]

    def rows_missing(self):
        return self.dances * self.judges - len(self.rows)

    def rows_of(self, dance):
        """The rows told of a dance, by the judges in their order."""
        return [self.rows[(dance, judge)] for judge in range(self.judges) if (dance, judge) in self.rows]

    def places_by_dance(self):
        """Of each dance the places of all couples, where no row is missing."""
        return [dance_places(self.rows_of(dance), self.couples) for dance in range(self.dances)]
