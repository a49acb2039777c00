"""total: points 1 and 3, and what holds of what all have together."""

import unittest
from itertools import combinations, product

from movesthatend.groups import step, total
from tests.helper import (
    HIGHEST, Manners, PeopleAndGroupsRefusals, Untouchable, blocks_of, drawn_inputs, evened, have_all, small_inputs,
    told_moves
)


def total_by_any_way(n, w, worth, groups):
    """total where a call with a way is asked for; the way isn't handed on."""
    return total(n, worth, groups)


def told_total(n, worth, groups):
    """What total answers to inputs that are not refused: pair by pair, told apart from the package's way."""
    together = 0
    for block in blocks_of(groups):
        for one, other in combinations(sorted(block), 2):
            together += worth[n * one + other] + worth[n * other + one]
    return [0, together]


class TotalRefuses(PeopleAndGroupsRefusals, unittest.TestCase):
    call = total_by_any_way


class TotalManners(Manners, unittest.TestCase):
    call = total_by_any_way


class AllAlone(unittest.TestCase):

    def test_all_have_0(self):
        for n in range(1, 6):
            for ignored, worth, ignored_too in drawn_inputs(n, 30, 200 + n):
                self.assertEqual(total(n, worth, list(range(n))), [0, 0])
                self.assertEqual(total(n, worth, list(range(n - 1, -1, -1))), [0, 0])

    def test_one_person(self):
        for own in range(-20, 21):
            self.assertEqual(total(1, [own], [0]), [0, 0])


class AllTogether(unittest.TestCase):

    def test_two_people(self):
        self.assertEqual(total(2, [0, 3, 4, 0], [0, 0]), [0, 7])
        self.assertEqual(total(2, [0, -3, -4, 0], [0, 0]), [0, -7])
        self.assertEqual(total(2, [0, 5, -5, 0], [0, 0]), [0, 0])

    def test_three_people(self):
        worth = [0, 1, 2, 4, 0, 8, 16, -5, 0]
        self.assertEqual(total(3, worth, [0, 0, 0]), [0, 26])

    def test_four_people(self):
        worth = [0, 1, 2, 3, 4, 0, 5, 6, 7, 8, 0, 9, 10, 11, -20, 0]
        self.assertEqual(total(4, worth, [0, 0, 0, 0]), [0, 46])

    def test_five_people(self):
        worth = [0, 1, 2, 3, 4, 5, 0, 6, 7, 8, 9, 10, 0, 11, 12, 13, 14, 15, 0, 16, 17, 18, 19, 20, 0]
        self.assertEqual(total(5, worth, [0] * 5), [0, 210])

    def test_the_most_and_the_least_there_can_be(self):
        for n in range(1, 6):
            self.assertEqual(total(n, [20] * (n * n), [0] * n), [0, 20 * n * (n - 1)])
            self.assertEqual(total(n, [-20] * (n * n), [0] * n), [0, -20 * n * (n - 1)])


class SeveralGroups(unittest.TestCase):

    def test_three_people(self):
        worth = [0, 1, 2, 4, 0, 8, 16, -5, 0]
        self.assertEqual(total(3, worth, [0, 0, 1]), [0, 5])
        self.assertEqual(total(3, worth, [0, 1, 0]), [0, 18])
        self.assertEqual(total(3, worth, [0, 1, 1]), [0, 3])

    def test_four_people(self):
        worth = [0, 1, 2, 3, 4, 0, 5, 6, 7, 8, 0, 9, 10, 11, -20, 0]
        self.assertEqual(total(4, worth, [0, 0, 1, 1]), [0, -6])
        self.assertEqual(total(4, worth, [0, 1, 0, 1]), [0, 26])
        self.assertEqual(total(4, worth, [0, 1, 1, 0]), [0, 26])
        self.assertEqual(total(4, worth, [0, 1, 1, 1]), [0, 19])
        self.assertEqual(total(4, worth, [0, 1, 2, 2]), [0, -11])

    def test_five_people(self):
        worth = [0, 1, 2, 3, 4, 5, 0, 6, 7, 8, 9, 10, 0, 11, 12, 13, 14, 15, 0, 16, 17, 18, 19, 20, 0]
        self.assertEqual(total(5, worth, [0, 1, 0, 1, 0]), [0, 84])
        self.assertEqual(total(5, worth, [0, 1, 2, 1, 0]), [0, 42])
        self.assertEqual(total(5, worth, [0, 1, 2, 3, 3]), [0, 36])

    def test_a_group_that_has_makes_good_for_one_that_lacks(self):
        # 0 and 1 like each other as much as 2 and 3 don't.
        worth = [0, 9, 0, 0, 9, 0, 0, 0, 0, 0, 0, -9, 0, 0, -9, 0]
        self.assertEqual(total(4, worth, [0, 0, 1, 1]), [0, 0])
        self.assertEqual(total(4, worth, [0, 0, 1, 2]), [0, 18])
        self.assertEqual(total(4, worth, [0, 1, 2, 2]), [0, -18])

    def test_who_is_in_another_group_does_not_count(self):
        for n in range(2, 6):
            for place in range(n * n):
                one, other = divmod(place, n)
                worth = [0] * (n * n)
                worth[place] = 20
                for groups in product(range(n), repeat=n):
                    counts = one != other and groups[one] == groups[other]
                    self.assertEqual(total(n, worth, list(groups)), [0, 20 if counts else 0])


class TheAnswersForm(unittest.TestCase):

    def test_the_number_stands_behind_a_0_though_it_is_below_0(self):
        for together in range(-40, 41):
            one = together // 2
            self.assertEqual(total(2, [0, one, together - one, 0], [0, 0]), [0, together])

    def test_the_numbers_of_refusals_behind_a_0(self):
        self.assertEqual(total(2, [0, -11, -11, 0], [0, 0]), [0, -22])
        self.assertEqual(total(2, [0, -20, -2, 0], [1, 1]), [0, -22])
        self.assertEqual(total(3, [0, -20, 0, 0, 0, -20, 0, 18, 0], [0, 0, 0]), [0, -22])
        self.assertEqual(total(2, [0, -3, -3, 0], [0, 0]), [0, -6])

    def test_its_length(self):
        for n in range(1, 6):
            for ignored, worth, groups in drawn_inputs(n, 60, 240 + n):
                answer = total(n, worth, groups)
                self.assertEqual(len(answer), 2)
                self.assertEqual(answer[0], 0)

    def test_the_arguments_names(self):
        self.assertEqual(total(groups=[0, 0], worth=[0, 3, 4, 0], n=2), [0, 7])

    def test_lists_handed_in_are_as_they_were(self):
        worth = Untouchable([0, 3, 4, 0])
        groups = Untouchable([1, 1])
        self.assertEqual(total(2, worth, groups), [0, 7])
        self.assertEqual(total(2, worth, groups), [0, 7])
        self.assertEqual((list(worth), list(groups)), ([0, 3, 4, 0], [1, 1]))


class WhatMeansNothing(unittest.TestCase):

    def test_worths_all_0(self):
        for n in range(1, 6):
            for groups in product(range(n), repeat=n):
                self.assertEqual(total(n, [0] * (n * n), list(groups)), [0, 0])

    def test_what_one_is_worth_to_oneself(self):
        self.assertEqual(total(2, [20, 3, 4, 20], [0, 0]), [0, 7])
        self.assertEqual(total(2, [-20, 3, 4, -20], [0, 0]), [0, 7])
        self.assertEqual(total(2, [20, 3, 4, -19], [0, 1]), [0, 0])

    def test_what_one_is_worth_to_oneself_is_refused_all_the_same(self):
        for n in range(1, 6):
            for person in range(n):
                for value in (21, -21):
                    worth = [0] * (n * n)
                    worth[person * n + person] = value
                    self.assertEqual(total(n, worth, list(range(n))), [-22])
                    self.assertEqual(total(n, worth, [0] * n), [-22])

    def test_how_groups_are_numbered(self):
        worth = [0, 1, 2, 4, 0, 8, 16, -5, 0]
        for groups in ([0, 1, 0], [1, 0, 1], [2, 0, 2], [2, 1, 2], [0, 2, 0], [1, 2, 1]):
            self.assertEqual(total(3, worth, groups), [0, 18])
        for number in range(3):
            self.assertEqual(total(3, worth, [number] * 3), [0, 26])


class NotEven(unittest.TestCase):

    def test_each_way_round_counts_once(self):
        self.assertEqual(total(2, [0, 1, 0, 0], [0, 0]), [0, 1])
        self.assertEqual(total(2, [0, 0, 1, 0], [0, 0]), [0, 1])
        self.assertEqual(total(2, [0, 20, -19, 0], [0, 0]), [0, 1])
        self.assertEqual(total(2, [0, -20, 19, 0], [0, 0]), [0, -1])

    def test_round_and_round(self):
        self.assertEqual(total(3, [0, 1, 0, 0, 0, 1, 1, 0, 0], [0, 0, 0]), [0, 3])
        self.assertEqual(total(3, [0, 1, 0, 0, 0, 1, 1, 0, 0], [0, 0, 1]), [0, 1])


class WrongInputs(unittest.TestCase):

    def test_each_by_its_number_alone(self):
        self.assertEqual(total(0, [], []), [-22])
        self.assertEqual(total(6, [0] * 27, [0] * 6), [-22])
        self.assertEqual(total(HIGHEST, [0] * 25, [0] * 5), [-22])
        for worth in ([], [0, 0, 0], [0, 0, 0, 0, 0], [0, 21, 0, 0], [0, 0, -21, 0]):
            self.assertEqual(total(2, worth, [0, 0]), [-22])
        for groups in ([], [0], [0, 0, 0], [0, 2], [2, 0], [HIGHEST, HIGHEST]):
            self.assertEqual(total(2, [0, -11, -11, 0], groups), [-22])

    def test_too_high_or_too_low_though_it_would_not_count(self):
        self.assertEqual(total(2, [0, 21, 0, 0], [0, 1]), [-22])
        self.assertEqual(total(3, [0, 0, -21, 0, 0, 0, 0, 0, 0], [0, 0, 1]), [-22])


class WhatHolds(unittest.TestCase):

    def test_if_all_is_even_a_step_makes_all_together_have_more(self):
        steps = 0
        for n in range(2, 6):
            for w, worth, groups in drawn_inputs(n, 200, 320 + n):
                worth = evened(n, worth)
                answer = step(n, w, worth, groups)
                if answer != [-6]:
                    steps += 1
                    self.assertGreater(total(n, worth, answer[2:])[1], total(n, worth, groups)[1])
        self.assertGreater(steps, 100)

    def test_if_all_is_even_each_move_makes_all_together_have_more_by_twice_what_one_gains(self):
        for n in range(2, 6):
            for w, worth, groups in drawn_inputs(n, 60, 340 + n):
                worth = evened(n, worth)
                ahead = total(n, worth, groups)[1]
                for person in range(n):
                    for has_then, ignored, behind in told_moves(n, w, worth, groups, person):
                        gain = has_then - have_all(n, worth, groups)[person]
                        self.assertGreater(gain, 0)
                        self.assertEqual(total(n, worth, behind)[1], ahead + 2 * gain)

    def test_where_not_all_is_even_they_may_have_less(self):
        # Person 1 leaves 0, who would rather be with them.
        worth = [0, 5, -1, 0]
        self.assertEqual(step(2, 0, worth, [0, 0]), [1, 1, 0, 1])
        self.assertEqual(total(2, worth, [0, 0]), [0, 4])
        self.assertEqual(total(2, worth, [0, 1]), [0, 0])


class AsTheWordsSay(unittest.TestCase):

    def test_all_small_inputs(self):
        for n, values in ((1, (0,)), (2, (-2, -1, 0, 1, 2)), (3, (-1, 0, 1))):
            for w, worth, groups in small_inputs(n, values):
                if w == 0:
                    self.assertEqual(total(n, worth, groups), told_total(n, worth, groups), (n, worth, groups))

    def test_drawn_inputs(self):
        for n in range(1, 6):
            for span in (1, 3, 20):
                for ignored, worth, groups in drawn_inputs(n, 300, 4000 + 10 * n + span, span):
                    self.assertEqual(total(n, worth, groups), told_total(n, worth, groups), (n, worth, groups))
                    self.assertEqual(total(n, worth, groups), [0, sum(have_all(n, worth, groups))])


if __name__ == "__main__":
    unittest.main()
