"""Promise 3: dance."""

import itertools
import random
import unittest

from calling import ask, dance, mark, marks, places_of, start
from words import dance_by_words

BIGGEST = 4294967295


class Refusals(unittest.TestCase):
    def test_no_such_dance(self):
        for number in (2, 3, 5, 6, BIGGEST):
            self.assertEqual(ask(start(2, 3, 2), dance(number)), [[0], [-2]], number)

    def test_no_such_dance_though_all_rows_are_told(self):
        calls = [start(2, 3, 1)] + marks(0, [[1, 2]] * 3) + [dance(1), dance(0)]
        self.assertEqual(ask(*calls)[-2:], [[-2], [0, 2, 4]])

    def test_no_row_told(self):
        self.assertEqual(ask(start(2, 3, 2), dance(0), dance(1)), [[0], [-11], [-11]])

    def test_a_row_missing_whichever_it_is(self):
        for absent in range(5):
            calls = [start(3, 5, 1)] + [mark(0, judge, [1, 2, 3]) for judge in range(5) if judge != absent]
            calls += [dance(0), mark(0, absent, [1, 2, 3]), dance(0)]
            self.assertEqual(ask(*calls)[-3:], [[-11], [0], [0, 2, 4, 6]], absent)

    def test_one_judge_telling_anew_does_not_stand_for_another(self):
        told = ask(start(2, 3, 1), mark(0, 0, [1, 2]), mark(0, 1, [1, 2]), mark(0, 1, [2, 1]), dance(0))
        self.assertEqual(told[-1], [-11])

    def test_a_row_missing_while_another_dance_is_complete(self):
        calls = [start(2, 3, 2)] + marks(1, [[2, 1]] * 3) + [mark(0, 0, [1, 2]), mark(0, 2, [1, 2]), dance(0), dance(1)]
        self.assertEqual(ask(*calls)[-2:], [[-11], [0, 4, 2]])

    def test_complete_while_another_dance_is_not(self):
        calls = [start(2, 3, 3)] + marks(1, [[2, 1]] * 3) + [mark(2, 1, [1, 2])]
        calls += [dance(1), dance(0), dance(2), dance(3)]
        self.assertEqual(ask(*calls)[-4:], [[0, 4, 2], [-11], [-11], [-2]])

    def test_a_refused_row_is_still_missing(self):
        told = ask(start(2, 3, 1), mark(0, 0, [1, 2]), mark(0, 1, [1, 2]), mark(0, 2, [1, 1]), dance(0))
        self.assertEqual(told[-2:], [[-22], [-11]])


class Places(unittest.TestCase):
    def test_all_judges_agree(self):
        self.assertEqual(places_of([[3, 1, 4, 2]] * 3), [0, 6, 2, 8, 4])

    def test_a_majority_of_firsts(self):
        self.assertEqual(places_of([[1, 2, 3], [1, 2, 3], [3, 1, 2]]), [0, 2, 4, 6])

    def test_a_majority_of_firsts_is_first_though_last_with_all_others(self):
        rows = [[1, 2, 3, 4], [1, 2, 3, 4], [1, 2, 3, 4], [4, 1, 2, 3], [4, 1, 2, 3]]
        self.assertEqual(places_of(rows), [0, 2, 4, 6, 8])

    def test_nobody_with_a_majority_of_firsts_the_larger_majority_goes_first(self):
        # Up to 2 the second couple has four marks of sum 6, the first three of sum 4.
        rows = [[1, 2, 3, 4], [1, 2, 4, 3], [2, 1, 3, 4], [4, 1, 2, 3], [4, 3, 1, 2]]
        self.assertEqual(places_of(rows), [0, 4, 2, 6, 8])

    def test_alike_in_number_the_lesser_sum_goes_first(self):
        # Up to 2 the first couple has 1, 1, 2 and the second 2, 2, 1.
        rows = [[1, 2, 3, 4], [1, 2, 3, 4], [2, 1, 3, 4], [3, 4, 1, 2], [3, 4, 1, 2]]
        self.assertEqual(places_of(rows), [0, 2, 4, 6, 8])

    def test_alike_in_number_and_sum_the_next_column_tells(self):
        # Up to 2 the first two couples have three marks of sum 5; up to 3 the second has five, the first four.
        rows = [[1, 2, 3, 4], [2, 1, 3, 4], [2, 3, 1, 4], [3, 2, 1, 4], [4, 3, 1, 2]]
        self.assertEqual(places_of(rows), [0, 6, 4, 2, 8])

    def test_alike_over_several_columns_a_further_one_tells(self):
        # Up to 2 and up to 3 the first two couples have two marks of sum 3; up to 4 the second has three.
        rows = [[1, 2, 3, 4, 5], [2, 1, 3, 4, 5], [5, 4, 1, 2, 3]]
        self.assertEqual(places_of(rows), [0, 4, 2, 6, 8, 10])

    def test_two_level_share_first_and_second(self):
        rows = [[1, 2, 3], [2, 3, 1], [3, 1, 2], [1, 2, 3], [2, 1, 3]]
        self.assertEqual(places_of(rows), [0, 3, 3, 6])

    def test_two_level_share_second_and_third(self):
        rows = [[1, 2, 3, 4], [1, 3, 4, 2], [1, 4, 2, 3], [1, 2, 3, 4], [1, 3, 2, 4]]
        self.assertEqual(places_of(rows), [0, 2, 5, 5, 8])

    def test_two_level_share_the_last_places(self):
        self.assertEqual(places_of([[1, 2, 3, 4], [1, 3, 4, 2], [4, 1, 2, 3]]), [0, 2, 4, 7, 7])

    def test_all_level_of_three(self):
        self.assertEqual(places_of([[1, 2, 3], [2, 3, 1], [3, 1, 2]]), [0, 4, 4, 4])

    def test_all_level_of_five(self):
        rows = [[1, 2, 3, 4, 5], [2, 3, 4, 5, 1], [3, 4, 5, 1, 2], [4, 5, 1, 2, 3], [5, 1, 2, 3, 4]]
        self.assertEqual(places_of(rows), [0, 6, 6, 6, 6, 6])

    def test_who_has_a_majority_in_a_lesser_column_goes_first(self):
        # The second couple alone has a majority up to 2; that the first is never below 3 doesn't help it.
        rows = [[3, 1, 2, 4, 5], [3, 1, 4, 2, 5], [3, 2, 4, 5, 1], [2, 5, 1, 4, 3], [1, 5, 4, 3, 2]]
        self.assertEqual(places_of(rows), [0, 4, 2, 8, 10, 6])

    def test_two_couples(self):
        for rows in itertools.product(([1, 2], [2, 1]), repeat=5):
            firsts = sum(row[0] == 1 for row in rows)
            self.assertEqual(places_of(rows), [0, 2, 4] if firsts > 2 else [0, 4, 2], rows)

    def test_fifteen_judges_twelve_couples(self):
        rows = [[(couple + judge) % 12 + 1 for couple in range(12)] for judge in range(15)]
        self.assertEqual(places_of(rows), [0, 2, 4, 6, 8, 12, 14, 18, 20, 22, 24, 16, 10])

    def test_fifteen_judges_twelve_couples_who_agree(self):
        self.assertEqual(places_of([list(range(12, 0, -1))] * 15), [0] + list(range(24, 0, -2)))

    def test_the_dance_asked_for_is_told(self):
        calls = [start(3, 3, 5)]
        rows = [[1, 2, 3], [2, 3, 1], [3, 1, 2], [1, 3, 2], [3, 2, 1]]
        for number in range(5):
            calls += marks(number, [rows[number]] * 3)
        told = ask(*calls, *[dance(number) for number in range(5)])
        self.assertEqual(told[-5:], [[0] + [2 * place for place in row] for row in rows])

    def test_asking_changes_nothing(self):
        calls = [start(2, 3, 1)] + marks(0, [[1, 2]] * 3) + [dance(0), dance(0), mark(0, 0, [2, 1]), dance(0)]
        self.assertEqual(ask(*calls)[-4:], [[0, 2, 4], [0, 2, 4], [0], [0, 2, 4]])


class ByTheWords(unittest.TestCase):
    def test_every_contest_of_three_couples_and_three_judges(self):
        for rows in itertools.product(itertools.permutations((1, 2, 3)), repeat=3):
            self.assertEqual(places_of(rows), [0] + dance_by_words(rows), rows)

    def some_contests(self):
        source = random.Random(20)
        for couples in range(2, 13):
            for judges in range(3, 16, 2):
                for turn in range(6):
                    yield [source.sample(range(1, couples + 1), couples) for judge in range(judges)]

    def test_as_the_words_go(self):
        for rows in self.some_contests():
            self.assertEqual(places_of(rows), [0] + dance_by_words(rows), rows)

    def test_all_places_together_are_those_of_one_each(self):
        for rows in self.some_contests():
            couples = len(rows[0])
            self.assertEqual(sum(places_of(rows)), couples * (couples + 1), rows)

    def test_judges_in_another_order_change_nothing(self):
        for rows in self.some_contests():
            told = places_of(rows)
            self.assertEqual(places_of(rows[::-1]), told, rows)
            self.assertEqual(places_of(rows[1:] + rows[:1]), told, rows)

    def test_couples_in_another_order_take_their_places_with_them(self):
        for rows in self.some_contests():
            told = places_of(rows)
            self.assertEqual(places_of([row[::-1] for row in rows]), [0] + told[:0:-1], rows)


if __name__ == "__main__":
    unittest.main()
