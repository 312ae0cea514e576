"""Promise 4: total."""

import unittest

from calling import agreed, ask, asked_of, contest, final, mark, marks, start, total, totals_of
from words import totals_by_words

BIGGEST = 4294967295
CYCLE = [[1, 2, 3], [2, 3, 1], [3, 1, 2]]


class Refusals(unittest.TestCase):
    def test_no_such_couple(self):
        for couple in (3, 4, 12, 255, BIGGEST):
            self.assertEqual(asked_of(agreed([1, 2, 3]), total(couple)), [[-2]], couple)

    def test_no_such_couple_while_rows_are_missing(self):
        for couple in (3, 4, 12, BIGGEST):
            told = ask(start(3, 3, 2), total(couple), mark(0, 0, [1, 2, 3]), total(couple))
            self.assertEqual(told, [[0], [-2], [5], [-2]], couple)

    def test_the_last_couple_is_there(self):
        for couples in range(2, 13):
            row = list(range(1, couples + 1))
            told = asked_of(agreed(row), total(couples - 1), total(couples))
            self.assertEqual(told, [[2 * couples], [-2]], couples)

    def test_a_couple_of_a_bigger_start_before_is_no_longer_there(self):
        calls = contest(agreed([1, 2, 3])) + contest(agreed([1, 2])) + [total(2), total(1)]
        self.assertEqual(ask(*calls)[-2:], [[-2], [4]])

    def test_no_row_told(self):
        self.assertEqual(ask(start(2, 3, 1), total(0), total(1), total(2)), [[0], [-11], [-11], [-2]])

    def test_a_row_of_any_one_dance_missing(self):
        whole = contest(agreed([1, 2], [2, 1], [1, 2]))
        for absent in range(1, len(whole)):
            calls = whole[:absent] + whole[absent + 1:]
            told = ask(*calls, total(0), total(1), whole[absent], total(0), total(1))
            self.assertEqual(told[-5:], [[-11], [-11], [0], [8], [10]], absent)

    def test_a_dance_missing_while_the_others_are_complete(self):
        for absent in range(3):
            calls = [start(2, 3, 3)]
            for number in range(3):
                calls += marks(number, [[1, 2]] * 3 if number != absent else [])
            calls += [total(0)] + marks(absent, [[2, 1]] * 3) + [total(0)]
            self.assertEqual(ask(*calls)[-5:], [[-11], [2], [1], [0], [8]], absent)

    def test_a_row_told_anew_does_not_stand_for_a_missing_one(self):
        told = ask(start(2, 3, 1), mark(0, 0, [1, 2]), mark(0, 1, [1, 2]), mark(0, 1, [1, 2]), total(0))
        self.assertEqual(told[-1], [-11])

    def test_missing_again_after_another_start(self):
        calls = contest(agreed([1, 2])) + [total(0), start(2, 3, 1), total(0)]
        self.assertEqual(ask(*calls)[-3:], [[2], [0], [-11]])

    def test_a_refused_start_leaves_the_totals(self):
        calls = contest(agreed([1, 2])) + [start(2, 2, 1), total(0), total(1), total(2)]
        self.assertEqual(ask(*calls)[-4:], [[-22], [2], [4], [-2]])


class Totals(unittest.TestCase):
    def test_one_dance(self):
        self.assertEqual(totals_of(agreed([3, 1, 4, 2])), [6, 2, 8, 4])

    def test_one_dance_with_shared_places(self):
        self.assertEqual(totals_of([[[1, 2, 3, 4], [1, 3, 4, 2], [4, 1, 2, 3]]]), [2, 4, 7, 7])

    def test_several_dances(self):
        self.assertEqual(totals_of(agreed([1, 2, 3], [1, 2, 3], [2, 1, 3])), [8, 10, 18])
        self.assertEqual(totals_of(agreed([1, 2, 3], [3, 2, 1])), [8, 8, 8])

    def test_several_dances_with_shared_places(self):
        # 2, 4, 7, 7 in the first dance, 5, 8, 5, 2 in the second.
        first = [[1, 4, 2, 3], [1, 3, 4, 2], [2, 1, 3, 4]]
        second = [[2, 3, 4, 1], [1, 4, 2, 3], [4, 3, 1, 2]]
        self.assertEqual(totals_of([first, second]), [7, 12, 12, 9])

    def test_all_share_in_one_dance_of_two(self):
        self.assertEqual(totals_of([CYCLE, [[3, 1, 2]] * 3]), [10, 6, 8])

    def test_places_are_summed_not_marks(self):
        # The first couple has the lesser sum of marks, but the second is first in each dance.
        rows = [[2, 1, 3], [2, 1, 3], [1, 3, 2]]
        self.assertEqual(totals_of([rows, rows]), [8, 4, 12])

    def test_fifteen_judges_twelve_couples_five_dances(self):
        dances = [[[(couple + number) % 12 + 1 for couple in range(12)]] * 15 for number in range(5)]
        places = [15, 20, 25, 30, 35, 40, 45, 50, 43, 36, 29, 22]
        self.assertEqual(totals_of(dances), [2 * place for place in places])

    def test_fifteen_judges_twelve_couples_five_dances_as_the_words_go(self):
        dances = [[[(couple * (5 if judge % 2 else 7) + judge * number) % 12 + 1 for couple in range(12)]
                   for judge in range(15)] for number in range(5)]
        self.assertEqual(totals_of(dances), totals_by_words(dances))

    def test_a_row_told_anew_behind_total(self):
        calls = contest([[[1, 2], [1, 2], [2, 1]], [[1, 2]] * 3])
        calls += [total(0), total(1), mark(0, 0, [2, 1]), total(0), total(1), mark(0, 2, [1, 2]), total(0), total(1)]
        self.assertEqual(ask(*calls)[-8:], [[4], [8], [0], [6], [6], [0], [4], [8]])

    def test_a_refused_row_behind_total(self):
        calls = contest(agreed([1, 2])) + [mark(0, 0, [2, 2]), mark(1, 0, [2, 1]), total(0), total(1)]
        self.assertEqual(ask(*calls)[-4:], [[-22], [-2], [2], [4]])

    def test_asking_changes_nothing(self):
        told = asked_of(agreed([1, 2, 3], [2, 1, 3]), total(0), total(0), total(9), total(2), final(), total(0))
        self.assertEqual(told, [[6], [6], [-2], [12], [0, 3, 3, 6], [6]])


if __name__ == "__main__":
    unittest.main()
