"""Promise 2: mark."""

import itertools
import unittest

from calling import ask, dance, mark, marks, start

BIGGEST = 4294967295


class Missing(unittest.TestCase):
    def test_how_many_rows_are_missing_after_each(self):
        calls = [start(3, 5, 3)]
        for number in range(3):
            calls += marks(number, [[1, 2, 3]] * 5)
        told = ask(*calls)
        self.assertEqual(told[1:], [[missing] for missing in range(14, -1, -1)])

    def test_in_whatever_order_they_come(self):
        told = ask(start(2, 3, 2), mark(1, 2, [1, 2]), mark(0, 0, [1, 2]), mark(1, 0, [2, 1]), mark(0, 2, [1, 2]))
        self.assertEqual(told, [[0], [5], [4], [3], [2]])

    def test_the_most_rows_there_may_be(self):
        row = list(range(1, 13))
        calls = [start(12, 15, 5)]
        for number in range(5):
            calls += marks(number, [row] * 15)
        told = ask(*calls)
        self.assertEqual(told[1:], [[missing] for missing in range(74, -1, -1)])

    def test_a_row_told_anew_is_not_counted_again(self):
        told = ask(start(2, 3, 1), mark(0, 0, [1, 2]), mark(0, 0, [2, 1]), mark(0, 0, [2, 1]), mark(0, 1, [1, 2]))
        self.assertEqual(told, [[0], [2], [2], [2], [1]])

    def test_a_row_told_anew_when_none_is_missing(self):
        calls = [start(2, 3, 1)] + marks(0, [[1, 2]] * 3) + [mark(0, 1, [2, 1])]
        self.assertEqual(ask(*calls)[-1], [0])

    def test_a_row_told_anew_stands_in_place_of_the_old_one(self):
        calls = [start(2, 3, 1)] + marks(0, [[1, 2], [1, 2], [2, 1]])
        calls += [dance(0), mark(0, 0, [2, 1]), dance(0), mark(0, 0, [1, 2]), dance(0)]
        self.assertEqual(ask(*calls)[4:], [[0, 2, 4], [0], [0, 4, 2], [0], [0, 2, 4]])

    def test_a_row_told_anew_changes_its_dance_alone(self):
        calls = [start(2, 3, 2)] + marks(0, [[1, 2]] * 3) + marks(1, [[1, 2]] * 3)
        calls += [mark(1, 0, [2, 1]), mark(1, 1, [2, 1]), dance(0), dance(1)]
        self.assertEqual(ask(*calls)[-2:], [[0, 2, 4], [0, 4, 2]])


class NoSuch(unittest.TestCase):
    def refused(self, expected, call):
        """The call is refused, and nothing is told or lost by it."""
        calls = [start(3, 3, 2), mark(0, 0, [2, 1, 3]), call, mark(0, 1, [2, 1, 3]), mark(0, 2, [2, 1, 3]), dance(0)]
        self.assertEqual(ask(*calls), [[0], [5], [expected], [4], [3], [0, 4, 2, 6]], call)

    def test_no_such_dance(self):
        for number in (2, 3, 5, 255, BIGGEST):
            self.refused(-2, mark(number, 0, [1, 2, 3]))

    def test_no_such_judge(self):
        for judge in (3, 4, 15, 255, BIGGEST):
            self.refused(-2, mark(0, judge, [1, 2, 3]))

    def test_neither_dance_nor_judge(self):
        self.refused(-2, mark(2, 3, [1, 2, 3]))

    def test_the_last_dance_and_judge_are_there(self):
        self.assertEqual(ask(start(2, 3, 2), mark(1, 2, [1, 2])), [[0], [5]])

    def test_both_refusals_due_the_one_told_first_is_answered(self):
        for places in ([], [1], [1, 1, 3], [0, 1, 2], [1, 2, 3, 4]):
            self.refused(-2, mark(2, 0, places))
            self.refused(-2, mark(0, 3, places))
            self.refused(-2, mark(2, 3, places))

    def test_places_not_a_row(self):
        wrong = [
            [],
            [1],
            [1, 2],
            [1, 2, 3, 4],
            [1, 2, 3, 3],
            [1, 2, 3, 0],
            [1, 1, 2],
            [1, 2, 2],
            [3, 3, 3],
            [2, 2, 2],
            [0, 1, 2],
            [0, 2, 3],
            [1, 2, 0],
            [1, 2, 4],
            [4, 2, 3],
            [1, 2, 255],
            [0, 0, 0],
            list(range(1, 21)),
            [1, 2, 3] + [0] * 17,
        ]
        for places in wrong:
            self.refused(-22, mark(0, 0, places))
            self.refused(-22, mark(0, 1, places))
            self.refused(-22, mark(1, 2, places))

    def test_of_three_places_the_six_orders_alone_are_rows(self):
        for places in itertools.product(range(5), repeat=3):
            expected = 2 if set(places) == {1, 2, 3} else -22
            self.assertEqual(ask(start(3, 3, 1), mark(0, 0, places)), [[0], [expected]], places)

    def test_twelve_places(self):
        row = list(range(12, 0, -1))
        for wrong in (row[:-1], row + [13], [13] + row[1:], row[:-1] + [2], row[:-1] + [0]):
            self.assertEqual(ask(start(12, 3, 1), mark(0, 0, wrong), mark(0, 0, row)), [[0], [-22], [2]], wrong)


if __name__ == "__main__":
    unittest.main()
