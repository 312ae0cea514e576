"""The interface: calls one behind another in a list, answers likewise."""

import unittest

from calling import ask, dance, mark, marks, start
from dancejudged.contest import answers

LINE = [
    0, 1, 3, 1,
    0, 3, 3, 2,
    1, 0, 0, 3, 1, 2, 3,
    1, 0, 1, 3, 1, 3, 2,
    2, 0,
    1, 0, 2, 0,
    1, 0, 2, 3, 2, 1, 3,
    2, 0,
    2, 1,
    2, 2,
    1, 2, 0, 2, 1, 2,
    0, 3, 4, 2,
    2, 0,
    0, 2, 3, 1,
    1, 0, 0, 2, 1, 2,
]
TOLD = [
    1, -22,
    1, 0,
    1, 5,
    1, 4,
    1, -11,
    1, -22,
    1, 3,
    4, 0, 2, 4, 6,
    1, -11,
    1, -2,
    1, -2,
    1, -22,
    4, 0, 2, 4, 6,
    1, 0,
    1, 2,
]


class Unchanging(list):
    """A list that fails when it is about to be changed."""

    def refuse(self, *args, **kwargs):
        raise AssertionError("the list handed in is changed")

    append = extend = insert = pop = remove = clear = sort = reverse = refuse
    __setitem__ = __delitem__ = __iadd__ = __imul__ = refuse


class Answers(unittest.TestCase):
    def test_one_call(self):
        self.assertEqual(answers([0, 2, 3, 1]), [1, 0])
        self.assertEqual(answers([0, 2, 4, 1]), [1, -22])

    def test_several_calls_in_order_with_their_counts(self):
        self.assertEqual(answers(list(LINE)), TOLD)

    def test_as_many_numbers_as_couples_behind_a_dance_that_is_told(self):
        for couples in range(2, 13):
            row = list(range(1, couples + 1))
            line = start(couples, 3, 1) + mark(0, 0, row) + mark(0, 1, row) + mark(0, 2, row) + dance(0)
            expected = [1, 0, 1, 2, 1, 1, 1, 0, couples + 1, 0] + [2 * place for place in row]
            self.assertEqual(answers(line), expected)

    def test_the_list_handed_in_is_as_it_was(self):
        line = list(LINE)
        answers(line)
        self.assertEqual(line, LINE)

    def test_the_list_handed_in_is_not_changed_for_a_while_either(self):
        self.assertEqual(answers(Unchanging(LINE)), TOLD)

    def test_the_same_list_twice_gives_the_same(self):
        self.assertEqual(answers(LINE), answers(LINE))

    def test_nothing_is_kept_from_one_time_to_the_next(self):
        whole = start(2, 3, 1) + mark(0, 0, [1, 2]) + mark(0, 1, [1, 2]) + mark(0, 2, [1, 2])
        answers(whole)
        self.assertEqual(answers(start(2, 3, 1) + mark(0, 0, [1, 2]) + dance(0)), [1, 0, 1, 2, 1, -11])

    def test_what_is_given_back_is_ones_own(self):
        first = answers(LINE)
        first.clear()
        self.assertEqual(answers(LINE), TOLD)

    def test_answers_are_plain_whole_numbers_in_a_list(self):
        told = answers(LINE)
        self.assertIs(type(told), list)
        self.assertEqual({type(number) for number in told}, {int})

    def test_places_that_look_like_calls_are_passed_over(self):
        told = ask(start(2, 3, 1), mark(0, 0, [0, 2, 3, 1]), mark(9, 9, [2, 0] * 10), mark(0, 0, [2, 1]))
        self.assertEqual(told, [[0], [-22], [-2], [2]])

    def test_fifteen_hundred_calls(self):
        row = list(range(1, 13))
        calls = [start(12, 15, 1)] + marks(0, [row] * 15)
        calls += [dance(0)] * (1500 - len(calls))
        told = ask(*calls)
        self.assertEqual(len(told), 1500)
        self.assertEqual(told[16:], [[0] + [2 * place for place in row]] * 1484)


if __name__ == "__main__":
    unittest.main()
