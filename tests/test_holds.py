"""Promise 6: what holds, over many contests, of dance and of final."""

import random
import unittest

from calling import agreed, asked_of, dance, final, final_of, places_of, total, totals_of


def swapped(source, row):
    """A row near to another one: some neighbours change places."""
    row = list(row)
    for turn in range(source.randint(0, 3)):
        at = source.randrange(len(row) - 1)
        row[at], row[at + 1] = row[at + 1], row[at]
    return row


def some_dance(source, couples, judges):
    """Rows of judges who differ at will, or who all but agree."""
    first = source.sample(range(1, couples + 1), couples)
    if source.random() < 0.4:
        return [source.sample(first, couples) for judge in range(judges)]
    return [swapped(source, first) for judge in range(judges)]


def some_contests():
    source = random.Random(6)
    contests = []
    for turn in range(700):
        couples = source.choice((2, 3, 3, 4, 4, 5, 6, 9, 12))
        judges = source.choice((3, 3, 5, 7, 15))
        contests.append([some_dance(source, couples, judges) for number in range(source.randint(1, 5))])
    return contests


def answered(dances):
    """The places in each dance, and those at the end."""
    told = asked_of(dances, *[dance(number) for number in range(len(dances))], final())
    return [places[1:] for places in told[:-1]], told[-1][1:]


def shared_out(places):
    """Whether the places are 1, 2, ... one each, or shared, each of those who share having their middle."""
    first = 1
    for place in sorted(set(places)):
        sharing = places.count(place)
        if place != 2 * first + sharing - 1:
            return False
        first += sharing
    return True


CONTESTS = some_contests()


class WhatHolds(unittest.TestCase):
    def test_all_places_together_are_those_of_as_many_couples_one_each(self):
        for dances in CONTESTS:
            by_dance, end = answered(dances)
            for places in by_dance + [end]:
                self.assertEqual(len(places), len(dances[0][0]), dances)
                self.assertEqual(sum(places), len(places) * (len(places) + 1), dances)
                self.assertTrue(shared_out(places), (places, dances))

    def test_all_totals_together_are_those_of_all_dances(self):
        for dances in CONTESTS:
            couples = len(dances[0][0])
            self.assertEqual(sum(totals_of(dances)), len(dances) * couples * (couples + 1), dances)

    def test_whoever_most_judges_put_first_is_first_there(self):
        seen = 0
        for dances in CONTESTS:
            for rows in dances:
                for couple, marks in enumerate(zip(*rows)):
                    if marks.count(1) > len(rows) / 2:
                        seen += 1
                        told = places_of(rows)[1:]
                        self.assertEqual(told[couple], 2, rows)
                        self.assertEqual(told.count(2), 1, rows)
        self.assertGreater(seen, 300)

    def test_whoever_most_judges_put_first_in_every_dance_is_first_at_the_end(self):
        source = random.Random(61)
        for turn in range(200):
            couples = source.randint(2, 8)
            others = range(2, couples + 1)
            won = [[1] + source.sample(others, couples - 1) for judge in range(2)]
            dances = [source.sample(won + [source.sample(range(1, couples + 1), couples)], 3) for number in range(3)]
            self.assertEqual(final_of(dances)[1], 2, dances)

    def test_where_all_judges_agree_so_do_the_places(self):
        source = random.Random(62)
        for turn in range(300):
            couples, judges = source.randint(2, 12), source.choice((3, 5, 7, 9, 11, 13, 15))
            row = source.sample(range(1, couples + 1), couples)
            by_dance, end = answered([[row] * judges] * source.randint(1, 5))
            for places in by_dance + [end]:
                self.assertEqual(places, [2 * place for place in row], (row, judges))

    def test_where_all_judges_agree_in_each_dance_so_do_its_places(self):
        source = random.Random(63)
        for turn in range(200):
            couples = source.randint(2, 12)
            rows = [source.sample(range(1, couples + 1), couples) for number in range(source.randint(1, 5))]
            by_dance, end = answered(agreed(*rows))
            self.assertEqual(by_dance, [[2 * place for place in row] for row in rows], rows)
            self.assertEqual(totals_of(agreed(*rows)), [2 * sum(places) for places in zip(*rows)], rows)

    def test_judges_in_another_order_change_nothing(self):
        source = random.Random(64)
        for dances in CONTESTS:
            told = answered(dances)
            self.assertEqual(answered([rows[::-1] for rows in dances]), told, dances)
            self.assertEqual(answered([source.sample(rows, len(rows)) for rows in dances]), told, dances)

    def test_who_is_before_another_one_in_every_dance_is_before_them_at_the_end(self):
        seen = 0
        for dances in CONTESTS:
            by_dance, end = answered(dances)
            for ours in range(len(end)):
                for theirs in range(len(end)):
                    if all(places[ours] < places[theirs] for places in by_dance):
                        seen += 1
                        self.assertLess(end[ours], end[theirs], dances)
        self.assertGreater(seen, 1000)

    def test_who_has_the_lesser_total_is_before_at_the_end(self):
        for dances in CONTESTS:
            end = final_of(dances)[1:]
            by_total = sorted(zip(totals_of(dances), end))
            self.assertEqual([place for total, place in by_total], sorted(end), dances)
            for (less, ours), (more, theirs) in zip(by_total, by_total[1:]):
                if less < more:
                    self.assertLess(ours, theirs, dances)

    def test_with_one_dance_the_end_is_that_dance(self):
        shared = 0
        for dances in CONTESTS:
            for rows in dances:
                places = places_of(rows)
                shared += len(set(places)) < len(places)
                self.assertEqual(final_of([rows]), places, rows)
                self.assertEqual([0] + totals_of([rows]), places, rows)
        self.assertGreater(shared, 50)

    def test_couples_in_another_order_take_their_places_with_them(self):
        for dances in CONTESTS:
            by_dance, end = answered(dances)
            turned = answered([[row[::-1] for row in rows] for rows in dances])
            self.assertEqual(turned, ([places[::-1] for places in by_dance], end[::-1]), dances)

    def test_dances_in_another_order_change_nothing_at_the_end(self):
        for dances in CONTESTS:
            self.assertEqual(asked_of(dances[::-1], final(), total(0)), asked_of(dances, final(), total(0)), dances)


if __name__ == "__main__":
    unittest.main()
