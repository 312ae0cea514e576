"""Promise 5: missing."""

import unittest

from calling import agreed, ask, contest, dance, final, mark, marks, missing, start, total


class Missing(unittest.TestCase):
    def test_ahead_of_any_row_all_are_missing(self):
        for judges in range(3, 16, 2):
            for dances in range(1, 6):
                told = ask(start(2, judges, dances), missing())
                self.assertEqual(told, [[0], [judges * dances]], (judges, dances))

    def test_couples_do_not_count(self):
        for couples in range(2, 13):
            self.assertEqual(ask(start(couples, 5, 2), missing()), [[0], [10]], couples)

    def test_after_each_row(self):
        for dances in range(1, 6):
            calls = []
            for call in contest([[[1, 2, 3]] * 5] * dances):
                calls += [call, missing()]
            expected = [[0], [5 * dances]]
            for left in range(5 * dances - 1, -1, -1):
                expected += [[left], [left]]
            self.assertEqual(ask(*calls), expected, dances)

    def test_after_a_row_told_anew(self):
        told = ask(start(2, 3, 1), mark(0, 1, [1, 2]), missing(), mark(0, 1, [2, 1]), missing())
        self.assertEqual(told, [[0], [2], [2], [2], [2]])
        calls = contest(agreed([1, 2])) + [missing(), mark(0, 0, [2, 1]), missing()]
        self.assertEqual(ask(*calls)[-3:], [[0], [0], [0]])

    def test_after_a_refused_mark(self):
        told = ask(start(2, 3, 1), mark(0, 0, [1, 1]), missing(), mark(1, 0, [1, 2]), missing(), mark(0, 3, [1, 2]),
                   missing(), mark(0, 0, [1, 2]), mark(0, 0, []), missing())
        self.assertEqual(told, [[0], [-22], [3], [-2], [3], [-2], [3], [2], [-22], [2]])

    def test_after_a_start_that_comes_again(self):
        calls = contest(agreed([1, 2], [1, 2])) + [missing(), start(2, 3, 2), missing(), start(4, 15, 5), missing()]
        self.assertEqual(ask(*calls)[-5:], [[0], [0], [6], [0], [75]])

    def test_after_a_refused_start(self):
        told = ask(start(2, 3, 2), mark(1, 1, [1, 2]), start(2, 4, 2), missing(), start(13, 15, 5), missing())
        self.assertEqual(told, [[0], [5], [-22], [5], [-22], [5]])

    def test_after_a_refused_start_ahead_of_the_first(self):
        self.assertEqual(ask(start(2, 3, 6), start(2, 3, 5), missing()), [[-22], [0], [15]])

    def test_asking_changes_nothing(self):
        told = ask(start(2, 3, 1), missing(), missing(), final(), total(0), total(2), dance(0), dance(1), missing(),
                   *marks(0, [[1, 2]] * 3), missing(), final(), total(1), dance(0), missing(), final())
        refusals = [[-11], [-11], [-2], [-11], [-2]]
        self.assertEqual(told[:9], [[0], [3], [3]] + refusals + [[3]])
        self.assertEqual(told[9:], [[2], [1], [0], [0], [0, 2, 4], [4], [0, 2, 4], [0], [0, 2, 4]])


if __name__ == "__main__":
    unittest.main()
