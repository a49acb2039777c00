"""list_of, the words' list: points 1 and 2."""

import unittest

from movesthatend.groups import list_of, run, step
from tests.helper import (
    HIGHEST, WAYS, Manners, Refusals, Untouchable, blocks_of, drawn_inputs, evened, numbers_of, small_inputs, told_list
)

MOST = 60


def no_moves(n, w, worth, groups):
    return list_of(n, w, 0, worth, groups)


def one_move(n, w, worth, groups):
    return list_of(n, w, 1, worth, groups)


def most_moves(n, w, worth, groups):
    return list_of(n, w, MOST, worth, groups)


def too_many_moves(n, w, worth, groups):
    return list_of(n, w, MOST + 1, worth, groups)


def pairs_of(answer):
    """Each move: who, and to which group."""
    return list(zip(answer[1::2], answer[2::2]))


class ListOfRefusesThoughNoMovesAreAskedFor(Refusals, unittest.TestCase):
    call = no_moves


class ListOfRefusesThoughMostMovesAreAskedFor(Refusals, unittest.TestCase):
    call = most_moves


class ListOfMannersForOneMove(Manners, unittest.TestCase):
    call = one_move


class ListOfMannersForMostMoves(Manners, unittest.TestCase):
    call = most_moves


class ListOfMannersWhereTooManyAreAskedFor(Manners, unittest.TestCase):
    call = too_many_moves


class TooManyMoves(unittest.TestCase):

    def test_above_60(self):
        for n in range(1, 6):
            for w in WAYS:
                for m in (61, 62, 100, 255, 65536, HIGHEST - 1, HIGHEST):
                    self.assertEqual(list_of(n, w, m, [0] * (n * n), [0] * n), [-22])

    def test_whatever_could_be_made(self):
        for m in (61, HIGHEST):
            self.assertEqual(list_of(1, 0, m, [0], [0]), [-22])
            self.assertEqual(list_of(2, 0, m, [0, 1, 1, 0], [0, 1]), [-22])
            self.assertEqual(list_of(2, 0, m, [0, 1, -1, 0], [0, 1]), [-22])

    def test_up_to_60(self):
        for n in range(1, 6):
            for w in WAYS:
                for m in range(61):
                    self.assertEqual(list_of(n, w, m, [0] * (n * n), [0] * n), [0])

    def test_several_refusals_at_once(self):
        for m in (61, HIGHEST):
            self.assertEqual(list_of(0, 0, m, [], []), [-22])
            self.assertEqual(list_of(6, 3, m, [21] * 27, [6] * 7), [-22])
            self.assertEqual(list_of(HIGHEST, HIGHEST, m, [2147483647] * 27, [HIGHEST] * 7), [-22])
            self.assertEqual(list_of(2, 0, m, [0, 0, 0, -21], [0, 0]), [-22])
            self.assertEqual(list_of(2, 0, m, [0, 0, 0], [0, 0]), [-22])
            self.assertEqual(list_of(2, 0, m, [0, 0, 0, 0], [0, 2]), [-22])
            self.assertEqual(list_of(2, 0, m, [0, 0, 0, 0], [0]), [-22])
            self.assertEqual(list_of(2, 3, m, [0, 0, 0, 0], [0, 0]), [-22])


class NobodyMayGoFromTheFirst(unittest.TestCase):

    def test_one_person(self):
        for w in WAYS:
            for m in (0, 1, 2, MOST):
                for own in (-20, 0, 20):
                    self.assertEqual(list_of(1, w, m, [own], [0]), [0])

    def test_two_people(self):
        for w in WAYS:
            for m in (0, 1, 2, MOST):
                self.assertEqual(list_of(2, w, m, [0, 3, 3, 0], [0, 0]), [0])
                self.assertEqual(list_of(2, w, m, [0, -3, -3, 0], [0, 1]), [0])

    def test_worths_all_0(self):
        for n in range(1, 6):
            for w in WAYS:
                for ignored, worth, groups in drawn_inputs(n, 20, 90 + n, span=0):
                    self.assertEqual(list_of(n, w, MOST, worth, groups), [0])

    def test_not_welcome_and_not_let_go(self):
        self.assertEqual(list_of(2, 1, MOST, [0, 3, -2, 0], [0, 1]), [0])
        self.assertEqual(list_of(2, 2, MOST, [0, 3, -2, 0], [0, 0]), [0])


class NobodyMayGoAnyMoreBehindMoves(unittest.TestCase):

    def test_one_move(self):
        for w in WAYS:
            self.assertEqual(list_of(2, w, MOST, [0, 3, 3, 0], [0, 1]), [1, 0, 1])
            self.assertEqual(list_of(2, w, MOST, [0, -3, -3, 0], [0, 0]), [1, 0, 1])

    def test_all_come_together(self):
        # 0 goes to 1; then one behind another goes to those two, who are group 0 from then on.
        for w in WAYS:
            self.assertEqual(list_of(5, w, MOST, [1] * 25, [0, 1, 2, 3, 4]), [4, 0, 1, 2, 0, 3, 0, 4, 0])

    def test_all_go_apart(self):
        # Each goes to be alone, which is one number higher each time.
        for w in WAYS:
            self.assertEqual(list_of(5, w, MOST, [-1] * 25, [0] * 5), [4, 0, 1, 1, 2, 2, 3, 3, 4])

    def test_as_one_likes(self):
        # 0 to 1; 1 to 2; 0 to both; 1 away from both.
        worth = [0, 2, 2, -3, 0, 1, 4, 0, 0]
        self.assertEqual(list_of(3, 0, MOST, worth, [0, 1, 2]), [4, 0, 1, 1, 1, 0, 1, 1, 1])

    def test_where_welcome(self):
        # 0 to both; 2 away from both; 0 from 1 to 2.
        worth = [0, 0, 2, 2, 0, 1, 2, -4, 0]
        self.assertEqual(list_of(3, 1, MOST, worth, [0, 1, 1]), [3, 0, 1, 2, 1, 0, 1])

    def test_where_welcome_and_let_go(self):
        # 0 away from both; 1 away from 2; 0 to 2.
        worth = [0, -4, 2, -2, 0, -3, 0, -1, 0]
        self.assertEqual(list_of(3, 2, MOST, worth, [0, 0, 0]), [3, 0, 1, 1, 2, 0, 2])

    def test_alone_and_back(self):
        # 0 goes to be alone; 1 goes to 0; 0 goes back to 2.
        worth = [0, -3, 2, 1, 0, -2, 0, 0, 0]
        self.assertEqual(list_of(3, 0, MOST, worth, [0, 0, 0]), [3, 0, 1, 1, 0, 0, 1])

    def test_two_groups_as_good(self):
        # 0 to 1, as good as 2; 1 to 2, as good as alone; 0 to both; 1 away. Had 0 gone to 2 that were all.
        worth = [0, 1, 1, -1, 0, 0, 0, 0, 0]
        self.assertEqual(list_of(3, 0, MOST, worth, [0, 1, 2]), [4, 0, 1, 1, 1, 0, 1, 1, 1])

    def test_groups_that_are_not_numbered_as_they_come(self):
        # 0 goes to 2, who is in group 2 as they come, whatever is handed over.
        worth = [0, 0, 6, 0, 0, 0, 0, 0, 0]
        for groups in ([0, 1, 2], [2, 1, 0], [1, 2, 0], [2, 0, 1]):
            self.assertEqual(list_of(3, 0, MOST, worth, groups), [1, 0, 2])
        # One group alone, with a number that isn't 0: alone is 1.
        for number in range(5):
            self.assertEqual(list_of(5, 0, MOST, [-1] * 25, [number] * 5), [4, 0, 1, 1, 2, 2, 3, 3, 4])


class HowManyAreAskedFor(unittest.TestCase):

    def test_none(self):
        for n in range(1, 6):
            for w, worth, groups in drawn_inputs(n, 40, 20 + n):
                self.assertEqual(list_of(n, w, 0, worth, groups), [0])
        self.assertEqual(list_of(2, 0, 0, [0, 1, 1, 0], [0, 1]), [0])
        self.assertEqual(list_of(2, 0, 0, [0, 1, -1, 0], [0, 1]), [0])

    def test_fewer_as_many_and_more_than_can_be_made(self):
        worth = [0, 2, 2, -3, 0, 1, 4, 0, 0]
        self.assertEqual(list_of(3, 0, 1, worth, [0, 1, 2]), [1, 0, 1])
        self.assertEqual(list_of(3, 0, 2, worth, [0, 1, 2]), [2, 0, 1, 1, 1])
        self.assertEqual(list_of(3, 0, 3, worth, [0, 1, 2]), [3, 0, 1, 1, 1, 0, 1])
        for m in (4, 5, 6, 59, 60):
            self.assertEqual(list_of(3, 0, m, worth, [0, 1, 2]), [4, 0, 1, 1, 1, 0, 1, 1, 1])

    def test_about_what_a_run_has(self):
        for n in range(1, 6):
            for w, worth, groups in drawn_inputs(n, 100, 120 + n, span=5):
                made, at_rest = run(n, w, worth, groups)[:2]
                if at_rest:
                    all_moves = list_of(n, w, made, worth, groups)
                    self.assertEqual(len(all_moves), 1 + 2 * made)
                    self.assertEqual(all_moves[0], made)
                    self.assertEqual(list_of(n, w, made + 1, worth, groups), all_moves)
                    self.assertEqual(list_of(n, w, MOST, worth, groups), all_moves)
                    if made > 0:
                        fewer = list_of(n, w, made - 1, worth, groups)
                        self.assertEqual(fewer, [made - 1] + all_moves[1:-2])

    def test_fewer_are_the_first_of_more(self):
        for n in range(1, 6):
            for w, worth, groups in drawn_inputs(n, 12, 140 + n, span=5):
                most = list_of(n, w, MOST, worth, groups)
                for m in range(MOST + 1):
                    made = min(m, most[0])
                    self.assertEqual(list_of(n, w, m, worth, groups), [made] + most[1:1 + 2 * made])


class RoundAndRound(unittest.TestCase):

    def test_one_who_runs_after_another_who_runs_away(self):
        worth = [0, 1, -1, 0]
        for groups in ([0, 1], [1, 0]):
            self.assertEqual(list_of(2, 0, 60, worth, groups), [60] + [0, 1, 1, 1] * 30)
            self.assertEqual(list_of(2, 0, 59, worth, groups), [59] + [0, 1, 1, 1] * 29 + [0, 1])
        for groups in ([0, 0], [1, 1]):
            self.assertEqual(list_of(2, 0, 60, worth, groups), [60] + [1, 1, 0, 1] * 30)

    def test_what_has_been_comes_again_and_does_not_end_it(self):
        # A run ends behind two moves.
        worth = [0, 1, -1, 0]
        self.assertEqual(run(2, 0, worth, [0, 1])[:2], [2, 0])
        self.assertEqual(list_of(2, 0, 1, worth, [0, 1]), [1, 0, 1])
        self.assertEqual(list_of(2, 0, 2, worth, [0, 1]), [2, 0, 1, 1, 1])
        self.assertEqual(list_of(2, 0, 3, worth, [0, 1]), [3, 0, 1, 1, 1, 0, 1])
        self.assertEqual(list_of(2, 0, 4, worth, [0, 1]), [4, 0, 1, 1, 1, 0, 1, 1, 1])

    def test_it_ends_where_one_must_be_welcome_or_let_go(self):
        worth = [0, 1, -1, 0]
        self.assertEqual(list_of(2, 1, MOST, worth, [0, 1]), [0])
        self.assertEqual(list_of(2, 1, MOST, worth, [0, 0]), [1, 1, 1])
        self.assertEqual(list_of(2, 2, MOST, worth, [0, 0]), [0])

    def test_only_behind_some_moves(self):
        # 0 away from both, for good; then 1 runs away from 2, and 2 runs after 1.
        worth = [0, -1, -1, -1, 0, -1, -1, 1, 0]
        self.assertEqual(list_of(3, 0, 60, worth, [0, 0, 0]), [60, 0, 1] + [1, 2, 2, 1] * 29 + [1, 2])
        # 0 away from both; 1 away from 2; then 2 runs after 0, and 0 runs away.
        worth = [0, -1, -1, -1, 0, -1, 1, 0, 0]
        self.assertEqual(list_of(3, 0, 60, worth, [0, 0, 0]), [60, 0, 1, 1, 2] + [2, 0, 0, 2] * 29)

    def test_alone_and_back(self):
        # 1 goes to both; 0 goes to be alone; 2 goes to 0, as good as alone: as at first.
        worth = [0, -1, 0, 1, 0, 1, 0, -1, 0]
        self.assertEqual(list_of(3, 0, 60, worth, [0, 1, 0]), [60] + [1, 0, 0, 1, 2, 0] * 20)

    def test_a_long_way_round(self):
        worth = [0, -8, 9, -2, -8, 0, 0, 8, -5, -7, 4, -8, 0, 9, 1, -4, 4, -3, 0, 5, 5, -6, -3, 6, 0]
        self.assertEqual(run(5, 0, worth, [4, 4, 0, 3, 3])[:2], [17, 0])
        answer = list_of(5, 0, 60, worth, [4, 4, 0, 3, 3])
        self.assertEqual(answer[0], 60)
        self.assertEqual(len(answer), 121)

    def test_where_one_must_be_welcome(self):
        worth = [0, 3, -4, 1, 5, 9, 0, -2, 2, 7, -3, -6, 0, 5, 1, -1, 7, 0, 0, 3, 1, -9, 6, 7, 0]
        answer = list_of(5, 1, 60, worth, [1, 1, 0, 3, 4])
        self.assertEqual(answer[0], 60)
        self.assertEqual(len(answer), 121)


class TheAnswersForm(unittest.TestCase):

    def test_to_which_group_is_numbered_ahead_of_that_move(self):
        # 0 leaves group 0 empty for 3's, which was 3 ahead of it; behind it that is group 0, and 1's is group 1.
        worth = [0, 0, 0, 6] + [0] * 4 + [0, 2, 0, 0] + [0] * 4
        self.assertEqual(list_of(4, 0, MOST, worth, [0, 1, 2, 3]), [2, 0, 3, 2, 1])

    def test_alone_is_the_number_behind_all_groups_ahead_of_that_move(self):
        worth = [0, -1, -1, -1] + [0] * 12
        self.assertEqual(list_of(4, 0, MOST, worth, [0, 0, 0, 0]), [1, 0, 1])
        self.assertEqual(list_of(4, 0, MOST, worth, [0, 0, 1, 1]), [1, 0, 2])
        self.assertEqual(list_of(4, 0, MOST, worth, [0, 0, 1, 2]), [1, 0, 3])

    def test_its_length(self):
        for n in range(1, 6):
            for w, worth, groups in drawn_inputs(n, 60, 40 + n):
                for m in (0, 1, 2, 3, 7, MOST):
                    answer = list_of(n, w, m, worth, groups)
                    self.assertLessEqual(answer[0], m)
                    self.assertEqual(len(answer), 1 + 2 * answer[0])
                    self.assertTrue(all(0 <= number for number in answer))
                    self.assertTrue(all(person < n and number <= n for person, number in pairs_of(answer)))

    def test_it_is_step_behind_step(self):
        for n in range(1, 6):
            for w, worth, groups in drawn_inputs(n, 60, 160 + n, span=5):
                answer = list_of(n, w, MOST, worth, groups)
                now = numbers_of(n, blocks_of(groups))
                for person, number in pairs_of(answer):
                    made = step(n, w, worth, now)
                    self.assertEqual([person, number], made[:2])
                    now = made[2:]
                if answer[0] < MOST:
                    self.assertEqual(step(n, w, worth, now), [-6])

    def test_the_arguments_names(self):
        worth = [0, 1, -1, 0]
        self.assertEqual(list_of(groups=[0, 1], worth=worth, m=2, w=0, n=2), [2, 0, 1, 1, 1])

    def test_lists_handed_in_are_as_they_were_though_many_moves_are_made(self):
        worth = Untouchable([0, 1, -1, 0])
        groups = Untouchable([1, 0])
        self.assertEqual(list_of(2, 0, MOST, worth, groups), [60] + [0, 1, 1, 1] * 30)
        self.assertEqual(list_of(2, 0, MOST, worth, groups), [60] + [0, 1, 1, 1] * 30)
        self.assertEqual((list(worth), list(groups)), ([0, 1, -1, 0], [1, 0]))


class WhatHolds(unittest.TestCase):

    def test_if_all_is_even_moves_end(self):
        for n in range(1, 6):
            for w, worth, groups in drawn_inputs(n, 100, 500 + n):
                self.assertLess(list_of(n, w, MOST, evened(n, worth), groups)[0], 52)

    def test_where_one_must_be_welcome_and_let_go_moves_end(self):
        for n in range(1, 6):
            for ignored, worth, groups in drawn_inputs(n, 100, 600 + n):
                self.assertLess(list_of(n, 2, MOST, worth, groups)[0], 52)


class AsTheWordsSay(unittest.TestCase):
    """Beside the document's words as helper.py has them."""

    def test_all_small_inputs(self):
        for n, m, values in ((1, 2, (0,)), (2, 5, (-2, -1, 0, 1, 2)), (3, 6, (-1, 1))):
            for w, worth, groups in small_inputs(n, values):
                answer = list_of(n, w, m, worth, groups)
                self.assertEqual(answer, told_list(n, w, m, worth, groups), (n, w, m, worth, groups))

    def test_drawn_inputs(self):
        for n in range(1, 6):
            for span in (1, 3, 20):
                for w, worth, groups in drawn_inputs(n, 60, 2000 + 10 * n + span, span):
                    for m in (1, 2, 3, MOST):
                        answer = list_of(n, w, m, worth, groups)
                        self.assertEqual(answer, told_list(n, w, m, worth, groups), (n, w, m, worth, groups))


if __name__ == "__main__":
    unittest.main()
