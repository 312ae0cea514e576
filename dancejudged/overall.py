"""All dances together: what the couples have in total, and their places at the end."""

from dancejudged.columns import couple_table, has_majority, leaders, middle_place


def couple_total(dances, couple):
    """The sum of a couple's places, twice as big, from the places of each dance."""
    return sum([places[couple] for places in dances])


def placed_up_to(dances, couple, place):
    """In how many dances a couple's place is this one or a better one, below zero, and the sum of such places."""
    # Below zero, so that more dances compare as less, like the standings by marks.
    such = [places[couple] for places in dances if places[couple] <= 2 * place]
    return (-len(such), sum(such))


def best_by_dances(dances, tied, place):
    """Those of the tied couples with the most dances up to the place, and of these with the least sum."""
    best = min([placed_up_to(dances, couple, place) for couple in tied])
    return [couple for couple in tied if placed_up_to(dances, couple, place) == best]


def best_by_marks(tables, tied, place):
    """Those of the tied couples that the marks of all dances put first, from the place's column on."""
    column = place
    # All of a couple's marks are up to the last column, so a majority is found there at the latest.
    while not any([has_majority(tables[couple], column) for couple in tied]):
        column += 1
    return leaders(tables, [couple for couple in tied if has_majority(tables[couple], column)], column)


def best_of(dances, tables, tied, place):
    """Those of the couples with a like total that have the place, or share from it on."""
    best = best_by_dances(dances, tied, place)
    if len(best) == 1:
        return best
    return best_by_marks(tables, best, place)


def final_places(dances, rows, couples):
    """Of each couple its place at the end, twice as big, from the places of each dance and all rows of all dances."""
    tables = [couple_table(rows, couple, couples) for couple in range(couples)]
    totals = [couple_total(dances, couple) for couple in range(couples)]
    final = [0] * couples
    place = 1
    while place <= couples:
        unplaced = [couple for couple in range(couples) if final[couple] == 0]
        least = min([totals[couple] for couple in unplaced])
        # Whoever is left of a like total is told apart anew, for the place that is next then.
        best = best_of(dances, tables, [couple for couple in unplaced if totals[couple] == least], place)
        for couple in best:
            final[couple] = middle_place(place, len(best))
        place += len(best)
    return final
