"""Promise 5: final."""

import itertools
import random
import unittest

from calling import agreed, ask, asked_of, contest, dance, final, final_of, mark, marks, missing, start, total
from calling import totals_of
from words import final_by_words


class Refusals(unittest.TestCase):
    def test_no_row_told(self):
        self.assertEqual(ask(start(2, 3, 1), final()), [[0], [-11]])
        self.assertEqual(ask(start(12, 15, 5), final()), [[0], [-11]])

    def test_a_row_missing_whichever_it_is(self):
        whole = contest(agreed([1, 2, 3], [1, 3, 2], [2, 1, 3]))
        for absent in range(1, len(whole)):
            calls = whole[:absent] + whole[absent + 1:] + [final(), whole[absent], final()]
            self.assertEqual(ask(*calls)[-3:], [[-11], [0], [0, 2, 4, 6]], absent)

    def test_a_dance_missing_while_another_is_complete(self):
        calls = [start(2, 3, 2)] + marks(0, [[1, 2]] * 3) + [dance(0), final()]
        self.assertEqual(ask(*calls)[-2:], [[0, 2, 4], [-11]])

    def test_a_row_told_anew_does_not_stand_for_a_missing_one(self):
        told = ask(start(2, 3, 1), mark(0, 0, [1, 2]), mark(0, 1, [1, 2]), mark(0, 0, [1, 2]), final())
        self.assertEqual(told[-1], [-11])

    def test_a_refused_row_is_still_missing(self):
        told = ask(start(2, 3, 1), mark(0, 0, [1, 2]), mark(0, 1, [1, 2]), mark(0, 2, [1, 3]), final())
        self.assertEqual(told[-2:], [[-22], [-11]])

    def test_missing_again_after_another_start(self):
        calls = contest(agreed([1, 2])) + [final(), start(2, 3, 1), final()]
        self.assertEqual(ask(*calls)[-3:], [[0, 2, 4], [0], [-11]])

    def test_a_refused_start_leaves_the_places(self):
        calls = contest(agreed([2, 1])) + [start(2, 3, 6), final()]
        self.assertEqual(ask(*calls)[-2:], [[-22], [0, 4, 2]])


class ByTotals(unittest.TestCase):
    def test_totals_that_all_differ(self):
        dances = agreed([2, 3, 1], [2, 3, 1], [1, 3, 2])
        self.assertEqual(totals_of(dances), [10, 18, 8])
        self.assertEqual(final_of(dances), [0, 4, 6, 2])

    def test_the_least_total_goes_first_though_never_first(self):
        # The first couple is second in each of five dances.
        dances = agreed([2, 1, 3, 4], [2, 3, 1, 4], [2, 3, 4, 1], [2, 4, 3, 1], [2, 4, 1, 3])
        self.assertEqual(totals_of(dances), [20, 30, 24, 26])
        self.assertEqual(final_of(dances), [0, 2, 8, 4, 6])

    def test_one_dance_where_all_judges_agree(self):
        self.assertEqual(final_of(agreed([3, 1, 4, 2])), [0, 6, 2, 8, 4])


class ByDances(unittest.TestCase):
    def test_two_alike_in_total_the_one_with_more_dances_goes_first(self):
        # Places 2, 2 and 1, 3: for the first place the fourth couple has a dance, the first none.
        dances = agreed([2, 3, 4, 1], [2, 4, 1, 3])
        self.assertEqual(totals_of(dances), [8, 14, 10, 8])
        self.assertEqual(final_of(dances), [0, 4, 8, 6, 2])

    def test_alike_in_number_the_lesser_sum_goes_first(self):
        # For the second place the first couple has a second, the third a first, though all marks speak for the first.
        dances = agreed([2, 3, 1, 4], [3, 1, 4, 2])
        self.assertEqual(totals_of(dances), [10, 8, 10, 12])
        self.assertEqual(final_of(dances), [0, 6, 2, 4, 8])

    def test_a_sum_with_shared_places(self):
        # 2, 4, 7, 7 and 5, 8, 5, 2. For the third place the second couple has 4 of 4 and 8, the third 5 of 7 and 5.
        first = [[1, 4, 2, 3], [1, 3, 4, 2], [2, 1, 3, 4]]
        second = [[2, 3, 4, 1], [1, 4, 2, 3], [4, 3, 1, 2]]
        self.assertEqual(totals_of([first, second]), [7, 12, 12, 9])
        self.assertEqual(final_of([first, second]), [0, 2, 6, 8, 4])

    def test_a_place_of_just_twice_p_counts(self):
        # 2, 4, 6, 8 and 3, 8, 6, 3. For the third place the third couple has two dances with 6, the second one with 4.
        first = [[1, 2, 3, 4]] * 3
        second = [[2, 4, 1, 3], [1, 4, 3, 2], [3, 2, 4, 1]]
        self.assertEqual(totals_of([first, second]), [5, 12, 12, 11])
        self.assertEqual(final_of([first, second]), [0, 2, 8, 6, 4])


class ByAllMarks(unittest.TestCase):
    def test_two_couples_told_apart_by_all_marks_alone(self):
        # Each wins a dance, one by three judges and one by two: four of six marks are a first for the first couple.
        self.assertEqual(final_of([[[1, 2], [1, 2], [1, 2]], [[1, 2], [2, 1], [2, 1]]]), [0, 2, 4])
        self.assertEqual(final_of([[[2, 1], [2, 1], [1, 2]], [[1, 2], [1, 2], [1, 2]]]), [0, 2, 4])
        self.assertEqual(final_of([[[2, 1], [2, 1], [2, 1]], [[1, 2], [1, 2], [2, 1]]]), [0, 4, 2])

    def test_half_of_all_marks_is_no_majority(self):
        # Up to 2 the first couple has half of its marks, the second a quarter; up to 3 all of the second's.
        dances = agreed([2, 3, 4, 5, 1], [1, 3, 4, 2, 5], [4, 3, 2, 1, 5], [3, 1, 2, 4, 5])
        self.assertEqual(totals_of(dances), [20, 20, 24, 24, 32])
        self.assertEqual(final_of(dances), [0, 4, 2, 8, 6, 10])

    def test_before_is_told_from_the_column_of_the_majority_on(self):
        # Up to 1 none of the second and third has a mark, up to 2 the second has half; up to 3 all of the third's.
        dances = agreed([4, 3, 2, 5, 1], [1, 2, 3, 4, 5], [5, 2, 3, 4, 1], [2, 4, 3, 1, 5])
        self.assertEqual(totals_of(dances), [24, 22, 22, 28, 24])
        self.assertEqual(final_of(dances), [0, 8, 4, 2, 10, 6])

    def test_from_column_p_on_though_a_majority_is_up_to_a_lesser_one(self):
        # The second and the fourth have 1, 4, 3 and 2, 2, 4 for the third place: up to 2 the fourth has a majority,
        # from 3 on they're level.
        dances = agreed([4, 1, 3, 2], [1, 4, 3, 2], [2, 3, 1, 4])
        self.assertEqual(totals_of(dances), [14, 16, 14, 16])
        self.assertEqual(final_of(dances), [0, 2, 7, 4, 7])

    def test_only_those_that_the_dances_leave_are_looked_at(self):
        # The second couple has all its marks up to 2, but the others have a dance each for the first place.
        self.assertEqual(final_of(agreed([1, 2, 3], [3, 2, 1])), [0, 3, 6, 3])

    def test_two_who_stay_level_share(self):
        self.assertEqual(final_of(agreed([1, 2], [2, 1])), [0, 3, 3])
        self.assertEqual(final_of([[[1, 2], [1, 2], [2, 1]], [[2, 1], [2, 1], [1, 2]]]), [0, 3, 3])
        self.assertEqual(final_of(agreed([1, 2, 3, 4], [1, 3, 2, 4])), [0, 2, 5, 5, 8])
        self.assertEqual(final_of(agreed([1, 2, 3, 4], [1, 2, 4, 3])), [0, 2, 4, 7, 7])


class SeveralAlike(unittest.TestCase):
    def test_of_three_one_goes_first_and_the_others_are_told_apart_from_1_on(self):
        # Places 2 4 1, 3 2 2 and 1 3 3. For the first place the first and the fourth have a dance each, and the
        # marks speak for the first. For the second the third has two dances, the fourth one: it is before it now.
        dances = agreed([2, 4, 3, 1], [4, 1, 2, 3], [1, 4, 2, 3])
        self.assertEqual(totals_of(dances), [14, 18, 14, 14])
        self.assertEqual(final_of(dances), [0, 2, 8, 4, 6])

    def test_of_three_one_goes_first_and_the_others_share(self):
        # Places 4 2, 2 4 and 5 1: for the second place a first is less than a second.
        dances = agreed([4, 3, 2, 1, 5], [2, 5, 4, 3, 1])
        self.assertEqual(totals_of(dances), [12, 16, 12, 8, 12])
        self.assertEqual(final_of(dances), [0, 7, 10, 7, 2, 4])

    def test_of_three_two_share_ahead_of_the_third(self):
        dances = agreed([2, 3, 1], [2, 1, 3])
        self.assertEqual(totals_of(dances), [8, 8, 8])
        self.assertEqual(final_of(dances), [0, 6, 3, 3])

    def test_three_share(self):
        dances = agreed([1, 3, 2], [2, 1, 3], [3, 2, 1])
        self.assertEqual(totals_of(dances), [12, 12, 12])
        self.assertEqual(final_of(dances), [0, 4, 4, 4])

    def test_five_alike_the_place_goes_on_with_those_who_share(self):
        # Places 3 3, 5 1, 2 4, 4 2 and 1 5: two share the first, for the third 3 3 has two dances, the others share.
        dances = agreed([3, 5, 2, 4, 1], [3, 1, 4, 2, 5])
        self.assertEqual(totals_of(dances), [12] * 5)
        self.assertEqual(final_of(dances), [0, 6, 3, 9, 9, 3])

    def test_several_groups_behind_one_another(self):
        # Three pairs, like those of the tests above: 1 2 and 2 1 share, 3 4 and 4 3, 5 6 and 6 5 likewise.
        dances = agreed([5, 1, 4, 2, 6, 3], [6, 2, 3, 1, 5, 4])
        self.assertEqual(totals_of(dances), [22, 6, 14, 6, 22, 14])
        self.assertEqual(final_of(dances), [0, 11, 3, 7, 3, 11, 7])

    def test_several_groups_each_told_apart_for_its_own_place(self):
        # For the first place 1 1 3 has two dances and 2 2 1 one; for the third 4 4 2 has one, and 3 3 4 two.
        dances = agreed([1, 2, 4, 3], [1, 2, 4, 3], [3, 1, 2, 4])
        self.assertEqual(totals_of(dances), [10, 10, 20, 20])
        self.assertEqual(final_of(dances), [0, 2, 4, 8, 6])


class OneDance(unittest.TestCase):
    def test_couples_that_share(self):
        for rows, places in (
            ([[1, 2, 3], [2, 3, 1], [3, 1, 2]], [4, 4, 4]),
            ([[1, 2, 3], [2, 3, 1], [3, 1, 2], [1, 2, 3], [2, 1, 3]], [3, 3, 6]),
            ([[1, 2, 3, 4], [1, 3, 4, 2], [1, 4, 2, 3], [1, 2, 3, 4], [1, 3, 2, 4]], [2, 5, 5, 8]),
            ([[1, 2, 3, 4], [1, 3, 4, 2], [4, 1, 2, 3]], [2, 4, 7, 7]),
        ):
            self.assertEqual(final_of([rows]), [0] + places, rows)


class TwoCouples(unittest.TestCase):
    def test_every_contest_of_two_couples_three_judges_and_two_dances(self):
        for firsts in itertools.product((True, False), repeat=6):
            rows = [[1, 2] if first else [2, 1] for first in firsts]
            won = (sum(firsts[:3]) > 1) + (sum(firsts[3:]) > 1)
            if won == 1:
                won = 1 + (sum(firsts) > 3) - (sum(firsts) < 3)
            expected = [[4, 2], [3, 3], [2, 4]][won]
            self.assertEqual(final_of([rows[:3], rows[3:]]), [0] + expected, firsts)


class Biggest(unittest.TestCase):
    def test_fifteen_judges_twelve_couples_five_dances_who_agree(self):
        dances = [[[(couple + number) % 12 + 1 for couple in range(12)]] * 15 for number in range(5)]
        # The totals are twice 15, 20, 25, 30, 35, 40, 45, 50, 43, 36, 29 and 22.
        places = [1, 2, 4, 6, 7, 9, 11, 12, 10, 8, 5, 3]
        self.assertEqual(final_of(dances), [0] + [2 * place for place in places])

    def test_fifteen_judges_twelve_couples_five_dances_all_but_level(self):
        # Pairs change places from dance to dance, the last dance is the judges' eight to seven.
        row = list(range(1, 13))
        swapped = [place + 1 if place % 2 else place - 1 for place in row]
        dances = [[row] * 15, [swapped] * 15, [row] * 15, [swapped] * 15, [row] * 8 + [swapped] * 7]
        self.assertEqual(final_of(dances), [0] + [2 * place for place in row])
        even = dances[:4]
        self.assertEqual(final_of(even), [0] + [place for first in range(1, 12, 2) for place in [2 * first + 1] * 2])

    def test_fifteen_judges_twelve_couples_five_dances_as_the_words_go(self):
        source = random.Random(15)
        for turn in range(10):
            dances = [[source.sample(range(1, 13), 12) for judge in range(15)] for number in range(5)]
            self.assertEqual(final_of(dances), [0] + final_by_words(dances), dances)


class Asking(unittest.TestCase):
    def test_a_row_told_anew_behind_final(self):
        calls = contest([[[1, 2], [1, 2], [1, 2]], [[1, 2], [2, 1], [2, 1]]])
        calls += [final(), mark(0, 1, [2, 1]), final(), mark(0, 2, [2, 1]), final(), mark(0, 2, [1, 2]), final()]
        self.assertEqual(ask(*calls)[-7:], [[0, 2, 4], [0], [0, 3, 3], [0], [0, 4, 2], [0], [0, 3, 3]])

    def test_a_row_told_anew_behind_total_and_final(self):
        calls = contest(agreed([1, 2], [1, 2])) + [total(0), total(1), final()]
        calls += marks(1, [[2, 1]] * 3) + [total(0), total(1), final()]
        told = ask(*calls)
        self.assertEqual(told[7:10], [[4], [8], [0, 2, 4]])
        self.assertEqual(told[13:], [[6], [6], [0, 3, 3]])

    def test_asking_changes_nothing(self):
        dances = agreed([2, 4, 3, 1], [4, 1, 2, 3], [1, 4, 2, 3])
        asking = [total(0), final(), missing(), dance(1), total(3), total(4), dance(3)]
        once = [[14], [0, 2, 8, 4, 6], [0], [0, 8, 2, 4, 6], [14], [-2], [-2]]
        self.assertEqual(asked_of(dances, *asking * 3), once * 3)
        self.assertEqual(asked_of(dances, *asking[::-1]), once[::-1])

    def test_a_refused_row_behind_final(self):
        calls = contest(agreed([1, 2])) + [final(), mark(0, 0, [2, 2]), mark(1, 0, [2, 1]), mark(0, 3, [2, 1]), final()]
        self.assertEqual(ask(*calls)[-5:], [[0, 2, 4], [-22], [-2], [-2], [0, 2, 4]])


class ByTheWords(unittest.TestCase):
    def test_every_contest_of_three_couples_and_two_dances_with_a_judge_apart(self):
        orders = list(itertools.permutations((1, 2, 3)))
        for first, other, second, another in itertools.product(orders, repeat=4):
            dances = [[first, first, other], [second, another, first]]
            self.assertEqual(final_of(dances), [0] + final_by_words(dances), dances)

    def test_where_all_judges_agree_and_totals_are_often_alike(self):
        source = random.Random(51)
        for turn in range(1500):
            couples = source.randint(2, 6)
            dances = agreed(*[source.sample(range(1, couples + 1), couples) for number in range(source.randint(1, 5))])
            self.assertEqual(final_of(dances), [0] + final_by_words(dances), dances)

    def test_where_judges_differ(self):
        source = random.Random(52)
        for turn in range(1500):
            couples, judges, count = source.randint(2, 12), source.choice((3, 5, 7, 15)), source.randint(1, 5)
            dances = [[source.sample(range(1, couples + 1), couples) for judge in range(judges)] for n in range(count)]
            self.assertEqual(final_of(dances), [0] + final_by_words(dances), dances)


if __name__ == "__main__":
    unittest.main()
