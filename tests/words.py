"""A dance and the end of a contest as the document's words go, pair by pair, for the tests to compare with."""


def before(ours, theirs, column, couples):
    """Of two couples' marks, 1 if the first is before from the column on, -1 if the second is, 0 if level."""
    for limit in range(column, couples + 1):
        mine = [place for place in ours if place <= limit]
        others = [place for place in theirs if place <= limit]
        if len(mine) != len(others):
            return 1 if len(mine) > len(others) else -1
        if sum(mine) != sum(others):
            return 1 if sum(mine) < sum(others) else -1
    return 0


def majority(marks, column):
    return sum(mark <= column for mark in marks) > len(marks) / 2


def unbeaten(group, marks_of, column):
    """Those of a set of couples that none of them is before, from the column on."""
    couples = len(marks_of)
    return {c for c in group if not any(before(marks_of[o], marks_of[c], column, couples) > 0 for o in group)}


def give(given, free_places, best):
    """Lets the best have the next free places, or share them."""
    taken = [free_places.pop(0) for couple in best]
    for couple in best:
        given[couple] = taken[0] + taken[-1]


def dance_by_words(rows):
    """Of each couple its place in a dance, twice as big."""
    couples = len(rows[0])
    marks_of = list(zip(*rows))
    free_places = list(range(1, couples + 1))
    given = {}
    for column in range(1, couples + 1):
        group = {c for c in range(couples) if c not in given and majority(marks_of[c], column)}
        while group:
            best = unbeaten(group, marks_of, column)
            give(given, free_places, best)
            group -= best
    return [given[couple] for couple in range(couples)]


def totals_by_words(dances):
    return [sum(places) for places in zip(*[dance_by_words(rows) for rows in dances])]


def have_the_place(group, place, places_of, marks_of):
    """Of a set of couples with a like total, those that have the place or share from it on."""
    such = {couple: [twice for twice in places_of[couple] if twice <= 2 * place] for couple in group}
    most = max(len(such[couple]) for couple in group)
    group = {couple for couple in group if len(such[couple]) == most}
    least = min(sum(such[couple]) for couple in group)
    group = {couple for couple in group if sum(such[couple]) == least}
    if len(group) == 1:
        return group
    for column in range(place, len(marks_of) + 1):
        with_one = {couple for couple in group if majority(marks_of[couple], column)}
        if with_one:
            return unbeaten(with_one, marks_of, column)


def final_by_words(dances):
    """Of each couple its place at the end, twice as big, from the rows of each dance."""
    couples = len(dances[0][0])
    places_of = list(zip(*[dance_by_words(rows) for rows in dances]))
    marks_of = list(zip(*[row for rows in dances for row in rows]))
    totals = totals_by_words(dances)
    free_places = list(range(1, couples + 1))
    given = {}
    for total in sorted(set(totals)):
        group = {couple for couple in range(couples) if totals[couple] == total}
        while group:
            best = have_the_place(group, free_places[0], places_of, marks_of)
            give(given, free_places, best)
            group -= best
    return [given[couple] for couple in range(couples)]
