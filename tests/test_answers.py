"""The interface: calls one behind another in a list, answers likewise."""

import unittest
from contextlib import redirect_stderr, redirect_stdout
from io import StringIO

from calling import ask, contest, dance, final, mark, missing, start, total
from dancejudged.contest import answers

# Each call of the line, with what is answered to it behind its count.
CALLS = [
    ([0, 1, 3, 1], [1, -22]),
    ([0, 3, 3, 2], [1, 0]),
    ([5], [1, 6]),
    ([1, 0, 0, 3, 1, 2, 3], [1, 5]),
    ([1, 0, 1, 3, 1, 3, 2], [1, 4]),
    ([2, 0], [1, -11]),
    ([1, 0, 2, 0], [1, -22]),
    ([1, 0, 2, 3, 2, 1, 3], [1, 3]),
    ([2, 0], [4, 0, 2, 4, 6]),
    ([2, 1], [1, -11]),
    ([2, 2], [1, -2]),
    ([3, 0], [1, -11]),
    ([3, 3], [1, -2]),
    ([4], [1, -11]),
    ([1, 2, 0, 2, 1, 2], [1, -2]),
    ([5], [1, 3]),
    ([1, 1, 0, 3, 3, 1, 2], [1, 2]),
    ([1, 1, 1, 3, 3, 1, 2], [1, 1]),
    ([1, 1, 2, 3, 3, 2, 1], [1, 0]),
    ([2, 1], [4, 0, 6, 2, 4]),
    ([3, 0], [1, 8]),
    ([3, 1], [1, 6]),
    ([3, 2], [1, 10]),
    ([4], [4, 0, 4, 2, 6]),
    ([5], [1, 0]),
    ([1, 1, 1, 3, 1, 3, 2], [1, 0]),
    ([2, 1], [4, 0, 6, 4, 2]),
    ([3, 1], [1, 8]),
    ([0, 3, 4, 2], [1, -22]),
    ([4], [4, 0, 2, 4, 6]),
    ([0, 2, 3, 1], [1, 0]),
    ([4], [1, -11]),
    ([5], [1, 3]),
    ([1, 0, 0, 2, 1, 2], [1, 2]),
]
LINE = [number for call, told in CALLS for number in call]
TOLD = [number for call, told in CALLS for number in told]


class Unchanging(list):
    """A list that fails when it is about to be changed."""

    def refuse(self, *args, **kwargs):
        raise AssertionError("the list handed in is changed")

    append = extend = insert = pop = remove = clear = sort = reverse = refuse
    __setitem__ = __delitem__ = __iadd__ = __imul__ = refuse


class Answers(unittest.TestCase):
    def test_one_call(self):
        self.assertEqual(answers([0, 2, 3, 1]), [1, 0])
        self.assertEqual(answers([0, 2, 4, 1]), [1, -22])

    def test_several_calls_in_order_with_their_counts(self):
        self.assertEqual(answers(list(LINE)), TOLD)

    def test_however_far_the_line_goes(self):
        line = []
        told = []
        for call, numbers in CALLS:
            line += call
            told += numbers
            self.assertEqual(answers(list(line)), told)

    def test_as_many_numbers_as_couples_behind_a_dance_and_an_end_that_are_told(self):
        for couples in range(2, 13):
            row = list(range(1, couples + 1))
            line = start(couples, 3, 1) + mark(0, 0, row) + mark(0, 1, row) + mark(0, 2, row) + dance(0) + final()
            places = [couples + 1, 0] + [2 * place for place in row]
            self.assertEqual(answers(line), [1, 0, 1, 2, 1, 1, 1, 0] + places + places)

    def test_the_list_handed_in_is_as_it_was(self):
        line = list(LINE)
        answers(line)
        self.assertEqual(line, LINE)

    def test_the_list_handed_in_is_not_changed_for_a_while_either(self):
        self.assertEqual(answers(Unchanging(LINE)), TOLD)

    def test_the_same_list_twice_gives_the_same(self):
        self.assertEqual(answers(LINE), answers(LINE))

    def test_nothing_is_kept_from_one_time_to_the_next(self):
        whole = start(2, 3, 1) + mark(0, 0, [1, 2]) + mark(0, 1, [1, 2]) + mark(0, 2, [1, 2])
        answers(whole)
        self.assertEqual(answers(start(2, 3, 1) + mark(0, 0, [1, 2]) + dance(0)), [1, 0, 1, 2, 1, -11])
        self.assertEqual(answers(start(2, 3, 1) + missing() + total(0) + final()), [1, 0, 1, 3, 1, -11, 1, -11])

    def test_what_is_given_back_is_ones_own(self):
        first = answers(LINE)
        first.clear()
        self.assertEqual(answers(LINE), TOLD)

    def test_answers_are_plain_whole_numbers_in_a_list(self):
        told = answers(LINE)
        self.assertIs(type(told), list)
        self.assertEqual({type(number) for number in told}, {int})

    def test_places_that_look_like_calls_are_passed_over(self):
        told = ask(start(2, 3, 1), mark(0, 0, [0, 2, 3, 1]), mark(9, 9, [2, 0] * 10), mark(0, 0, [2, 1]))
        self.assertEqual(told, [[0], [-22], [-2], [2]])

    def test_it_prints_nothing(self):
        with redirect_stdout(StringIO()) as out, redirect_stderr(StringIO()) as err:
            answers(LINE)
        self.assertEqual(out.getvalue() + err.getvalue(), "")


class Biggest(unittest.TestCase):
    def test_fifteen_hundred_calls(self):
        row = list(range(1, 13))
        calls = contest([[row] * 15] * 5)
        rest = 1500 - len(calls)
        calls += [dance(4), total(11), final(), missing()] * (rest // 4)
        told = ask(*calls)
        self.assertEqual(len(told), 1500)
        places = [0] + [2 * place for place in row]
        self.assertEqual(told[76:], [places, [120], places, [0]] * (rest // 4))

    def test_fifteen_hundred_rows_of_twelve_in_thirty_thousand_numbers(self):
        row = list(range(1, 13))
        calls = contest([[row] * 15] * 5)
        calls += [mark(turn % 5, turn % 15, row[::-1]) for turn in range(1499 - len(calls))] + [final()]
        self.assertLess(sum(len(call) for call in calls), 30000)
        told = ask(*calls)
        self.assertEqual(len(told), 1500)
        self.assertEqual(told[76:-1], [[0]] * 1423)
        # Turn by turn each dance has three of its judges tell anew, always the same: no majority.
        self.assertEqual(told[-1], [0] + [2 * place for place in row])

    def test_thirty_thousand_numbers(self):
        calls = [start(12, 15, 5)] + [mark(0, 0, [1] * 20)] * 1249 + [missing()] * 20
        self.assertEqual(sum(len(call) for call in calls), 30000)
        self.assertEqual(ask(*calls), [[0]] + [[-22]] * 1249 + [[75]] * 20)


if __name__ == "__main__":
    unittest.main()
