"""Promise 1: start."""

import unittest

from calling import ask, dance, mark, marks, start

BIGGEST = 4294967295
THREE_ROWS = [[1, 2], [1, 2], [2, 1]]


class Sizes(unittest.TestCase):
    def test_couples_from_2_to_12(self):
        for couples in range(0, 20):
            expected = 0 if 2 <= couples <= 12 else -22
            self.assertEqual(ask(start(couples, 3, 1)), [[expected]], couples)

    def test_judges_from_3_to_15_and_odd(self):
        for judges in range(0, 25):
            expected = 0 if judges in (3, 5, 7, 9, 11, 13, 15) else -22
            self.assertEqual(ask(start(2, judges, 1)), [[expected]], judges)

    def test_dances_from_1_to_5(self):
        for dances in range(0, 10):
            expected = 0 if 1 <= dances <= 5 else -22
            self.assertEqual(ask(start(2, 3, dances)), [[expected]], dances)

    def test_all_at_their_least_and_at_their_most(self):
        self.assertEqual(ask(start(2, 3, 1)), [[0]])
        self.assertEqual(ask(start(12, 15, 5)), [[0]])

    def test_the_biggest_numbers(self):
        self.assertEqual(ask(start(BIGGEST, 3, 1)), [[-22]])
        self.assertEqual(ask(start(2, BIGGEST, 1)), [[-22]])
        self.assertEqual(ask(start(2, 3, BIGGEST)), [[-22]])
        self.assertEqual(ask(start(BIGGEST, BIGGEST, BIGGEST)), [[-22]])

    def test_sizes_hold_in_the_calls_behind(self):
        told = ask(start(4, 5, 2), mark(1, 4, [4, 3, 2, 1]), mark(2, 0, [1, 2, 3, 4]), mark(0, 5, [1, 2, 3, 4]))
        self.assertEqual(told, [[0], [9], [-2], [-2]])


class Again(unittest.TestCase):
    def test_a_first_start_may_be_refused_and_another_come(self):
        told = ask(start(1, 3, 1), start(2, 4, 1), start(2, 3, 0), start(2, 3, 1), mark(0, 0, [1, 2]))
        self.assertEqual(told, [[-22], [-22], [-22], [0], [2]])

    def test_no_row_is_told_after_another_start(self):
        calls = [start(2, 3, 1)] + marks(0, THREE_ROWS) + [dance(0)]
        calls += [start(2, 3, 1), dance(0), mark(0, 1, [1, 2])]
        told = ask(*calls)
        self.assertEqual(told[4:], [[0, 2, 4], [0], [-11], [2]])

    def test_another_start_brings_its_own_sizes(self):
        calls = [start(2, 3, 1)] + marks(0, THREE_ROWS)
        calls += [start(3, 5, 2), mark(0, 0, [1, 2]), mark(1, 4, [3, 1, 2]), dance(1), dance(2)]
        told = ask(*calls)
        self.assertEqual(told[4:], [[0], [-22], [9], [-11], [-2]])

    def test_a_smaller_start_leaves_no_dance_or_judge_of_the_one_before(self):
        told = ask(start(12, 15, 5), start(2, 3, 1), mark(1, 0, [1, 2]), mark(0, 3, [1, 2]), dance(1))
        self.assertEqual(told, [[0], [0], [-2], [-2], [-2]])

    def test_a_refused_start_leaves_rows_and_sizes(self):
        for refused in (start(13, 3, 1), start(1, 5, 2), start(3, 4, 1), start(3, 17, 5), start(3, 5, 0), start(3, 5, 6)):
            calls = [start(2, 3, 1)] + marks(0, THREE_ROWS)
            calls += [refused, dance(0), mark(0, 2, [1, 2]), mark(0, 3, [1, 2]), mark(1, 0, [1, 2]), dance(1)]
            told = ask(*calls)
            self.assertEqual(told[4:], [[-22], [0, 2, 4], [0], [-2], [-2], [-2]], refused)

    def test_a_refused_start_leaves_how_many_rows_are_missing(self):
        told = ask(start(2, 3, 2), mark(0, 0, [1, 2]), start(2, 2, 2), mark(0, 1, [1, 2]))
        self.assertEqual(told, [[0], [5], [-22], [4]])


if __name__ == "__main__":
    unittest.main()
