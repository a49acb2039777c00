"""all_of, the words' all: points 1 and 3, and what holds of all that may be come to."""

import unittest
from itertools import product

from movesthatend.groups import all_of, run, step
from tests.helper import (
    HIGHEST, WAYS, Manners, Refusals, Untouchable, all_ways, blocks_of, drawn_inputs, evened, numbers_of, small_inputs,
    told_all_from_each, told_moves
)

# How many ways to be in groups there are for so many people.
HOW_MANY_WAYS = {1: 1, 2: 2, 3: 5, 4: 15, 5: 52}

# Five in a ring: each likes the next one most, the one ahead less, and doesn't want to be with the others.
RING = [0, 2, -4, -4, 1, 1, 0, 2, -4, -4, -4, 1, 0, 2, -4, -4, -4, 1, 0, 2, 2, -4, -4, 1, 0]


class AllOfRefuses(Refusals, unittest.TestCase):
    call = all_of


class AllOfManners(Manners, unittest.TestCase):
    call = all_of


class NobodyMayGoFromTheFirst(unittest.TestCase):

    def test_one_person(self):
        for w in WAYS:
            for own in range(-20, 21):
                self.assertEqual(all_of(1, w, [own], [0]), [1, 1, 0])

    def test_two_people(self):
        for w in WAYS:
            self.assertEqual(all_of(2, w, [0, 3, 3, 0], [0, 0]), [1, 1, 0])
            self.assertEqual(all_of(2, w, [0, -3, -3, 0], [0, 1]), [1, 1, 0])

    def test_worths_all_0(self):
        for n in range(1, 6):
            for w in WAYS:
                for groups in all_ways(n):
                    self.assertEqual(all_of(n, w, [0] * (n * n), list(groups)), [1, 1, 0])

    def test_all_together_or_all_apart_as_all_like(self):
        for n in range(1, 6):
            for w in WAYS:
                self.assertEqual(all_of(n, w, [20] * (n * n), [n - 1] * n), [1, 1, 0])
                self.assertEqual(all_of(n, w, [-20] * (n * n), list(range(n))), [1, 1, 0])

    def test_not_welcome_and_not_let_go(self):
        self.assertEqual(all_of(2, 1, [0, 3, -2, 0], [0, 1]), [1, 1, 0])
        self.assertEqual(all_of(2, 2, [0, 3, -2, 0], [0, 0]), [1, 1, 0])

    def test_wherever_step_says_so(self):
        for n in range(1, 6):
            for w, worth, groups in drawn_inputs(n, 100, 5000 + n, span=2):
                nobody = step(n, w, worth, groups) == [-6]
                self.assertEqual(all_of(n, w, worth, groups) == [1, 1, 0], nobody)


class WhoeverGoesFirst(unittest.TestCase):

    def test_not_only_the_first_person(self):
        # 0 likes 1, and so does 2: one of them goes first, then the other.
        worth = [0, 1, 0, 0, 0, 0, 0, 1, 0]
        for w in WAYS:
            self.assertEqual(all_of(3, w, worth, [0, 1, 2]), [4, 1, 0])
            self.assertEqual(all_of(3, w, worth, [0, 0, 1]), [2, 1, 0])
            self.assertEqual(all_of(3, w, worth, [0, 1, 1]), [2, 1, 0])

    def test_not_only_where_one_has_most(self):
        # 0 would rather go to 2 than to 1, but may go to 1 and on to 2.
        worth = [0, 1, 2, 0, 0, 0, 0, 0, 0]
        for w in WAYS:
            self.assertEqual(all_of(3, w, worth, [0, 1, 2]), [3, 1, 0])
            self.assertEqual(all_of(3, w, worth, [0, 0, 1]), [2, 1, 0])
            self.assertEqual(all_of(3, w, worth, [0, 1, 0]), [1, 1, 0])

    def test_alone_though_another_group_has_more(self):
        # 0 would rather go from 1 to 2 than be alone, but may be alone first.
        worth = [0, -1, 1, 0, 0, 0, 0, 0, 0]
        for w in WAYS:
            self.assertEqual(all_of(3, w, worth, [0, 0, 1]), [3, 1, 0])
            self.assertEqual(all_of(3, w, worth, [0, 1, 2]), [2, 1, 0])

    def test_not_to_a_group_as_good_as_ones_own(self):
        worth = [0, 2, 2, 0, 0, 0, 0, 0, 0]
        for w in WAYS:
            self.assertEqual(all_of(3, w, worth, [0, 0, 1]), [1, 1, 0])
            self.assertEqual(all_of(3, w, worth, [0, 1, 2]), [3, 1, 0])

    def test_a_run_ends_yet_others_lead_round(self):
        # 0 runs away from 1, who runs away from 2, who runs after 0.
        worth = [0, -1, 0, 0, 0, -1, 1, 0, 0]
        self.assertEqual(run(3, 0, worth, [0, 0, 0]), [3, 1, 0, 1, 0])
        self.assertEqual(all_of(3, 0, worth, [0, 0, 0]), [5, 1, 1])

    def test_a_run_goes_round_yet_others_lead_to_rest(self):
        # 0 runs away from 1, who runs away from 2, who runs away from 0: to another, or to be alone.
        worth = [0, -1, 0, 0, 0, -1, -1, 0, 0]
        self.assertEqual(run(3, 0, worth, [0, 0, 0]), [4, 0, 0, 1, 1])
        self.assertEqual(all_of(3, 0, worth, [0, 0, 0]), [5, 1, 1])
        self.assertEqual(all_of(3, 0, worth, [0, 1, 2]), [1, 1, 0])


class ByEachWay(unittest.TestCase):

    def test_two_people(self):
        # 0 runs after 1, who runs away.
        worth = [0, 1, -1, 0]
        self.assertEqual([all_of(2, w, worth, [0, 1]) for w in WAYS], [[2, 0, 1], [1, 1, 0], [1, 1, 0]])
        self.assertEqual([all_of(2, w, worth, [0, 0]) for w in WAYS], [[2, 0, 1], [2, 1, 0], [1, 1, 0]])

    def test_three_people(self):
        # 0 and 1 want to be alone; 2 likes 1 and would keep them, and doesn't like 0.
        worth = [0, -1, -1, -1, 0, -1, -1, 1, 0]
        self.assertEqual([all_of(3, w, worth, [0, 0, 0]) for w in WAYS], [[4, 0, 1], [4, 1, 0], [2, 1, 0]])

    def test_four_people(self):
        # None is worth anything to another but 3 to 0, and 0 to 1, who runs away from 0.
        worth = [0, 0, 0, 1, -1, 0, 0, 0, 0, 0, 0, 0, 0, 0, 0, 0]
        self.assertEqual([all_of(4, w, worth, [0, 1, 2, 3]) for w in WAYS], [[2, 1, 0]] * 3)
        # 0 goes to 1 and 3 by way 0 alone, as 1 would have less; then 1 goes to be alone or to 2.
        self.assertEqual(all_of(4, 0, worth, [0, 1, 2, 1]), [4, 1, 0])
        self.assertEqual(all_of(4, 1, worth, [0, 1, 2, 1]), [1, 1, 0])
        self.assertEqual(all_of(4, 2, worth, [0, 1, 2, 1]), [1, 1, 0])

    def test_five_in_a_ring(self):
        # All apart, five times one pair, five times two pairs.
        self.assertEqual([all_of(5, w, RING, [0, 1, 2, 3, 4]) for w in WAYS], [[11, 0, 1], [11, 0, 1], [11, 1, 0]])
        # Of two pairs one goes to the one who is left over: only if those who are left have no say.
        self.assertEqual([all_of(5, w, RING, [0, 0, 1, 1, 2]) for w in WAYS], [[5, 0, 1], [5, 0, 1], [1, 1, 0]])
        self.assertEqual([all_of(5, w, RING, [0, 0, 0, 0, 0]) for w in WAYS], [[42, 0, 1], [42, 0, 1], [1, 1, 0]])


class RoundOrNot(unittest.TestCase):

    def test_behind_one_move_and_back_by_another(self):
        for worth in ([0, 1, -1, 0], [0, -1, 1, 0], [0, 20, -20, 0]):
            for groups in ([0, 0], [1, 1], [0, 1], [1, 0]):
                self.assertEqual(all_of(2, 0, worth, groups), [2, 0, 1])

    def test_what_was_told_at_first_does_not_come_again(self):
        # 0 and 1 want to be alone; 2 runs after 1 for ever, but nobody comes to 0 again.
        worth = [0, -1, -1, -1, 0, -1, -1, 1, 0]
        self.assertEqual(all_of(3, 0, worth, [0, 0, 0]), [4, 0, 1])
        self.assertEqual(all_of(3, 0, worth, [0, 1, 0]), [3, 0, 1])
        self.assertEqual(all_of(3, 0, worth, [0, 1, 1]), [2, 0, 1])
        self.assertEqual(all_of(3, 0, worth, [0, 1, 2]), [2, 0, 1])

    def test_round_and_one_at_rest_all_the_same(self):
        # 0 likes 2, who likes 1, who likes 0: each goes from one to the other, or to both.
        worth = [0, 0, 1, 1, 0, 0, 0, 1, 0]
        for groups in ([0, 0, 1], [0, 1, 0], [0, 1, 1]):
            self.assertEqual(all_of(3, 0, worth, groups), [4, 1, 1])
            self.assertEqual(all_of(3, 1, worth, groups), [4, 1, 1])
        self.assertEqual(all_of(3, 0, worth, [0, 1, 2]), [5, 1, 1])
        self.assertEqual(all_of(3, 0, worth, [0, 0, 0]), [1, 1, 0])

    def test_one_that_is_at_rest_counts_only_if_it_may_be_come_to(self):
        # All three together are at rest, but nobody comes to the other two.
        worth = [0, -1, 1, 1, 0, -1, -1, 1, 0]
        self.assertEqual(all_of(3, 0, worth, [0, 0, 0]), [1, 1, 0])
        for groups in ([0, 0, 1], [0, 1, 0], [0, 1, 1], [0, 1, 2]):
            self.assertEqual(all_of(3, 0, worth, groups), [4, 0, 1])

    def test_two_moves_that_lead_to_the_same_are_not_round(self):
        # Each pair's first likes the second: they may come together in either order.
        worth = [0, 1, 0, 0, 0, 0, 0, 0, 0, 0, 0, 1, 0, 0, 0, 0]
        for w in WAYS:
            self.assertEqual(all_of(4, w, worth, [0, 1, 2, 3]), [4, 1, 0])

    def test_round_where_one_must_be_welcome_and_one_at_rest(self):
        worth = [0, 3, -4, 1, 5, 9, 0, -2, 2, 7, -3, -6, 0, 5, 1, -1, 7, 0, 0, 3, 1, -9, 6, 7, 0]
        self.assertEqual([all_of(5, w, worth, [1, 1, 0, 3, 4]) for w in WAYS], [[52, 1, 1], [17, 1, 1], [7, 1, 0]])


class CountedOnce(unittest.TestCase):

    def test_however_many_moves_lead_there(self):
        for w in WAYS:
            self.assertEqual(all_of(2, w, [0, 3, 3, 0], [0, 1]), [2, 1, 0])
            self.assertEqual(all_of(2, w, [0, -3, -3, 0], [0, 0]), [2, 1, 0])

    def test_however_groups_were_numbered(self):
        for w in WAYS:
            for groups in ([0, 1, 2], [0, 2, 1], [1, 0, 2], [1, 2, 0], [2, 0, 1], [2, 1, 0]):
                self.assertEqual(all_of(3, w, [0, 1, 2, 0, 0, 0, 0, 0, 0], groups), [3, 1, 0])
        # Behind going round, groups are numbered as they come: that is what was told at first.
        self.assertEqual(all_of(5, 0, RING, [4, 3, 2, 1, 0]), [11, 0, 1])
        self.assertEqual(all_of(5, 0, RING, [3, 3, 0, 0, 4]), [5, 0, 1])

    def test_all_there_are_where_all_like_one_another(self):
        for n in range(1, 6):
            for w in WAYS:
                self.assertEqual(all_of(n, w, [1] * (n * n), list(range(n))), [HOW_MANY_WAYS[n], 1, 0])

    def test_all_there_are_where_none_likes_another(self):
        # From all together to each way there is: to fewer, or to be alone.
        for n in range(1, 6):
            self.assertEqual(all_of(n, 0, [-1] * (n * n), [0] * n), [HOW_MANY_WAYS[n], 1, 0])

    def test_only_to_be_alone_where_none_is_welcome(self):
        # Two or more are left together, whoever they are, or nobody.
        for n in range(1, 6):
            for w in (1, 2):
                self.assertEqual(all_of(n, w, [-1] * (n * n), [0] * n), [2 ** n - n, 1, 0])

    def test_many_for_five_people(self):
        worth = [0, 8, 2, 0, 3, -1, 0, -8, -5, -9, 9, -3, 0, -5, -9, -5, 5, 7, 0, -5, -6, -2, 3, 9, 0]
        self.assertEqual(all_of(5, 0, worth, [1, 2, 0, 0, 4]), [52, 0, 1])
        worth = [0, -6, 5, 4, 0, 6, 0, -7, -4, 7, 6, 4, 0, 8, 3, 2, 6, 4, 0, -5, -7, 9, -6, -2, 0]
        self.assertEqual(all_of(5, 0, worth, [3, 0, 1, 4, 4]), [52, 1, 1])
        worth = [0, 1, 1, 0, 0, 0, 0, 0, -1, 0, 0, -1, 0, -1, 0, 1, 1, -1, 0, 0, 0, 1, -1, 1, 0]
        self.assertEqual(all_of(5, 1, worth, [2, 4, 4, 4, 1]), [42, 1, 0])
        worth = [0, 2, 8, 0, -1, 4, 0, -5, -2, 3, 7, -3, 0, -2, 1, 1, 8, 9, 0, -1, 7, 2, -4, -5, 0]
        self.assertEqual(all_of(5, 2, worth, [4, 1, 1, 0, 0]), [36, 1, 0])


class WhereItUsuallyBreaks(unittest.TestCase):
    """One person, nobody may go and worths all 0 stand in NobodyMayGoFromTheFirst, the rest of it above or here."""

    def test_alone_and_back(self):
        # 1 goes to both; 0 goes to be alone; 2 goes to 0, as good as alone: as at first.
        worth = [0, -1, 0, 1, 0, 1, 0, -1, 0]
        self.assertEqual([all_of(3, w, worth, [0, 1, 0]) for w in WAYS], [[5, 0, 1], [1, 1, 0], [1, 1, 0]])
        # Who is alone doesn't go to be alone.
        for w in WAYS:
            self.assertEqual(all_of(3, w, [0, -1, -1, -1, 0, -1, -1, -1, 0], [0, 1, 2]), [1, 1, 0])

    def test_two_groups_as_good(self):
        # 0 likes 1 and 2 alike. With 2 that is all; 1 runs away, to be alone again or to 2.
        worth = [0, 1, 1, -1, 0, 0, 0, 0, 0]
        self.assertEqual([all_of(3, w, worth, [0, 1, 2]) for w in WAYS], [[5, 1, 1], [2, 1, 0], [2, 1, 0]])

    def test_a_group_as_good_as_alone(self):
        # 0 leaves 1, to be alone or to go to 2.
        worth = [0, -3, 0, 0, 0, 0, 0, 0, 0]
        for w in WAYS:
            self.assertEqual(all_of(3, w, worth, [0, 0, 1]), [3, 1, 0])

    def test_the_highest_and_the_lowest_worths(self):
        self.assertEqual(all_of(5, 0, [20] * 25, [0, 1, 2, 3, 4]), [52, 1, 0])
        self.assertEqual(all_of(5, 0, [-20] * 25, [4, 4, 4, 4, 4]), [52, 1, 0])


class WrongInputs(unittest.TestCase):

    def test_each_by_its_number_alone(self):
        for n in (0, 6, HIGHEST):
            self.assertEqual(all_of(n, 0, [0] * 25, [0] * 5), [-22])
        for w in (3, HIGHEST):
            self.assertEqual(all_of(2, w, [0, 1, -1, 0], [0, 1]), [-22])
        for worth in ([], [0, 1, -1], [0, 1, -1, 0, 0], [0, 21, -1, 0], [0, 1, -21, 0], [21, 1, -1, 0]):
            self.assertEqual(all_of(2, 0, worth, [0, 1]), [-22])
        for groups in ([], [0], [0, 1, 0], [0, 2], [2, 0], [0, HIGHEST]):
            self.assertEqual(all_of(2, 0, [0, 1, -1, 0], groups), [-22])

    def test_several_at_once(self):
        self.assertEqual(all_of(0, 3, [], []), [-22])
        self.assertEqual(all_of(2, 3, [0, 1, -21], [0, 2, 0]), [-22])
        self.assertEqual(all_of(HIGHEST, HIGHEST, [-2147483648] * 27, [HIGHEST] * 7), [-22])


class TheAnswersForm(unittest.TestCase):

    def test_three_numbers(self):
        for n in range(1, 6):
            for w, worth, groups in drawn_inputs(n, 60, 5100 + n):
                ways, rests, goes_round = all_of(n, w, worth, groups)
                self.assertTrue(1 <= ways <= HOW_MANY_WAYS[n])
                self.assertIn((rests, goes_round), ((0, 1), (1, 0), (1, 1)))

    def test_the_arguments_names(self):
        self.assertEqual(all_of(groups=[0, 1], worth=[0, 1, -1, 0], w=0, n=2), [2, 0, 1])

    def test_lists_handed_in_are_as_they_were_though_many_ways_are_come_to(self):
        worth = Untouchable([1] * 25)
        groups = Untouchable([4, 3, 2, 1, 0])
        for ignored in range(2):
            self.assertEqual(all_of(5, 0, worth, groups), [52, 1, 0])
        self.assertEqual((list(worth), list(groups)), ([1] * 25, [4, 3, 2, 1, 0]))


class WhatHolds(unittest.TestCase):

    def test_a_if_all_is_even_it_can_not_go_round(self):
        for between in product(range(-2, 3), repeat=3):
            worth = [0, between[0], between[1], between[0], 0, between[2], between[1], between[2], 0]
            for w, groups in product(WAYS, all_ways(3)):
                self.assertEqual(all_of(3, w, worth, list(groups))[1:], [1, 0])
        for n in range(1, 6):
            for w, worth, groups in drawn_inputs(n, 150, 5200 + n):
                self.assertEqual(all_of(n, w, evened(n, worth), groups)[1:], [1, 0])

    def test_b_where_one_must_be_welcome_and_let_go_it_can_not_go_round(self):
        for w, worth, groups in small_inputs(3, (-1, 0, 1)):
            if w == 2 and tuple(groups) in all_ways(3):
                self.assertEqual(all_of(3, 2, worth, groups)[1:], [1, 0])
        for n in range(1, 6):
            for ignored, worth, groups in drawn_inputs(n, 150, 5300 + n, span=5):
                self.assertEqual(all_of(n, 2, worth, groups)[1:], [1, 0])

    def test_c_at_rest_by_the_moves_told_or_it_may_go_round(self):
        seen = set()
        for n in range(1, 6):
            for w, worth, groups in drawn_inputs(n, 150, 5400 + n, span=4):
                made, ended = run(n, w, worth, groups)[:2]
                ways, rests, goes_round = all_of(n, w, worth, groups)
                self.assertEqual(rests if ended else goes_round, 1)
                self.assertGreaterEqual(ways, made + ended)
                seen.add((ended, rests, goes_round))
        self.assertEqual(seen, {(1, 1, 0), (1, 1, 1), (0, 0, 1), (0, 1, 1)})

    def test_d_no_move_leads_out_of_what_may_be_come_to(self):
        for n in range(2, 6):
            for w, worth, groups in drawn_inputs(n, 40, 5500 + n, span=4):
                ways, rests, goes_round = all_of(n, w, worth, groups)
                behind = [move[2] for person in range(n) for move in told_moves(n, w, worth, groups, person)]
                then = [all_of(n, w, worth, one) for one in behind]
                for answer in then:
                    self.assertLessEqual(answer[0], ways)
                    self.assertLessEqual(answer[1], rests)
                    self.assertLessEqual(answer[2], goes_round)
                if then:
                    self.assertEqual(rests, max(answer[1] for answer in then))
                    self.assertEqual(goes_round, max(answer[2] for answer in then))

    def test_d_not_by_the_moves_step_answers(self):
        for n in range(2, 6):
            for w, worth, groups in drawn_inputs(n, 80, 5600 + n, span=4):
                answer = step(n, w, worth, groups)
                if answer != [-6]:
                    self.assertLessEqual(all_of(n, w, worth, answer[2:])[0], all_of(n, w, worth, groups)[0])


class AsTheWordsSay(unittest.TestCase):
    """Beside the document's words as helper.py has them."""

    def assert_as_told_from_each(self, n, w, worth):
        for groups, answer in told_all_from_each(n, w, worth).items():
            self.assertEqual(all_of(n, w, worth, list(groups)), answer, (n, w, worth, groups))

    def test_there_are_so_many_ways(self):
        for n in range(1, 6):
            self.assertEqual(len(all_ways(n)), HOW_MANY_WAYS[n])

    def test_all_small_inputs(self):
        for n, values in ((1, (0,)), (2, (-2, -1, 0, 1, 2)), (3, (-1, 1))):
            for w, worth, groups in small_inputs(n, values):
                if groups == [0] * n:
                    self.assert_as_told_from_each(n, w, worth)

    def test_drawn_inputs(self):
        for n, how_many in ((3, 100), (4, 30), (5, 8)):
            for span in (1, 3, 20):
                for w, worth, ignored in drawn_inputs(n, how_many, 6000 + 10 * n + span, span):
                    self.assert_as_told_from_each(n, w, worth)

    def test_groups_numbered_in_any_manner(self):
        for w, worth, groups in drawn_inputs(4, 20, 6100, span=3):
            told = told_all_from_each(4, w, worth)
            for other in product(range(4), repeat=4):
                as_they_come = tuple(numbers_of(4, blocks_of(other)))
                self.assertEqual(all_of(4, w, worth, list(other)), told[as_they_come])


if __name__ == "__main__":
    unittest.main()
