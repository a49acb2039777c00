"""step: points 1 and 2."""

import unittest

from movesthatend.groups import step
from tests.helper import (
    WAYS, Manners, Refusals, blocks_of, drawn_inputs, evened, have_all, numbers_of, small_inputs, told_step
)


class StepRefuses(Refusals, unittest.TestCase):
    call = step


class StepManners(Manners, unittest.TestCase):
    call = step


class AsOneLikes(unittest.TestCase):
    """Way 0."""

    def test_to_the_one_who_is_liked(self):
        self.assertEqual(step(2, 0, [0, 3, -2, 0], [0, 1]), [0, 1, 0, 0])

    def test_away_from_the_one_who_is_not(self):
        self.assertEqual(step(2, 0, [0, 3, -2, 0], [0, 0]), [1, 1, 0, 1])

    def test_worth_is_told_person_by_person(self):
        # Person 0 likes 2, 1 likes 0, 2 likes nobody.
        worth = [0, -1, 5, 4, 0, -1, -1, -1, 0]
        self.assertEqual(step(3, 0, worth, [0, 1, 2]), [0, 2, 0, 1, 0])

    def test_all_others_of_a_group_count_together(self):
        # To person 0: 1 is worth 4, 2 and 3 are worth 3 each.
        worth = [0, 4, 3, 3] + [0] * 12
        self.assertEqual(step(4, 0, worth, [0, 1, 2, 2]), [0, 2, 0, 1, 0, 0])
        worth = [0, 4, 9, -6] + [0] * 12
        self.assertEqual(step(4, 0, worth, [0, 1, 2, 2]), [0, 1, 0, 0, 1, 1])

    def test_the_first_person_goes_even_if_another_gains_more(self):
        worth = [0, 1, 0, 0, 0, 20, 0, 20, 0]
        self.assertEqual(step(3, 0, worth, [0, 1, 2]), [0, 1, 0, 0, 1])

    def test_a_later_person_goes_if_those_ahead_may_not(self):
        worth = [0, -1, -1, -1, -1] * 4 + [0, 0, 7, 0, 0]
        self.assertEqual(step(5, 0, worth, [0, 1, 2, 3, 4]), [4, 2, 0, 1, 2, 3, 2])

    def test_from_less_than_nothing_to_less_of_it_is_no_move_when_alone_is_better(self):
        # Person 0 has -5 with 1, would have -1 with 2, and 0 alone.
        worth = [0, -5, -1, 0, 0, 0, 0, 0, 0]
        self.assertEqual(step(3, 0, worth, [0, 0, 1]), [0, 2, 0, 1, 2])

    def test_one_stays_where_one_has_as_much(self):
        worth = [0, 2, 2, 0, 0, 0, 0, 0, 0]
        self.assertEqual(step(3, 0, worth, [0, 0, 1]), [-6])


class WhereWelcome(unittest.TestCase):
    """Way 1."""

    def test_not_welcome(self):
        self.assertEqual(step(2, 1, [0, 3, -2, 0], [0, 1]), [-6])

    def test_welcome_where_it_is_all_the_same_to_them(self):
        self.assertEqual(step(2, 1, [0, 3, 0, 0], [0, 1]), [0, 1, 0, 0])

    def test_one_of_them_is_enough_to_be_not_welcome(self):
        # To 2 and 3, who are together, person 0 is worth 20 and -1.
        worth = [0, 0, 5, 5, 0, 0, 0, 0, 20, 0, 0, 0, -1, 0, 0, 0]
        self.assertEqual(step(4, 0, worth, [0, 1, 2, 2]), [0, 2, 0, 1, 0, 0])
        self.assertEqual(step(4, 1, worth, [0, 1, 2, 2]), [2, 0, 0, 1, 0, 2])

    def test_the_best_of_those_where_one_may_go(self):
        # Person 0 likes 1 most, who doesn't want them; 2 does.
        worth = [0, 9, 4, -1, 0, 0, 1, 0, 0]
        self.assertEqual(step(3, 0, worth, [0, 1, 2]), [0, 1, 0, 0, 1])
        self.assertEqual(step(3, 1, worth, [0, 1, 2]), [0, 2, 0, 1, 0])

    def test_alone_one_is_always_welcome(self):
        self.assertEqual(step(2, 1, [0, 3, -2, 0], [0, 0]), [1, 1, 0, 1])

    def test_whom_one_leaves_has_no_say(self):
        # Person 1 would miss 0.
        worth = [0, 1, 2, 20, 0, 0, 0, 0, 0]
        self.assertEqual(step(3, 1, worth, [0, 0, 1]), [0, 1, 0, 1, 0])

    def test_another_goes_if_the_first_is_not_welcome(self):
        worth = [0, 5, 0, -1, 0, 3, 0, 0, 0]
        self.assertEqual(step(3, 1, worth, [0, 1, 2]), [1, 2, 0, 1, 1])


class WhereLetGo(unittest.TestCase):
    """Way 2."""

    def test_welcome_but_not_let_go(self):
        worth = [0, 1, 2, 20, 0, 0, 0, 0, 0]
        self.assertEqual(step(3, 2, worth, [0, 0, 1]), [-6])

    def test_not_let_go_to_be_alone(self):
        self.assertEqual(step(2, 2, [0, 3, -2, 0], [0, 0]), [-6])

    def test_let_go_where_it_is_all_the_same_to_them(self):
        worth = [0, 1, 2, 0, 0, 0, 0, 0, 0]
        self.assertEqual(step(3, 2, worth, [0, 0, 1]), [0, 1, 0, 1, 0])

    def test_let_go_where_they_are_glad(self):
        self.assertEqual(step(2, 2, [0, -3, -2, 0], [0, 0]), [0, 1, 0, 1])

    def test_let_go_but_not_welcome(self):
        worth = [0, 1, 2, 0, 0, 0, -1, 0, 0]
        self.assertEqual(step(3, 2, worth, [0, 0, 1]), [-6])

    def test_one_of_them_is_enough_to_be_kept(self):
        # To 1 and 2 person 0 is worth -20 and 1; 2 makes good for 1 what 0 takes.
        worth = [0, -1, -1, -20, 0, 20, 1, 0, 0]
        self.assertEqual(step(3, 1, worth, [0, 0, 0]), [0, 1, 0, 1, 1])
        self.assertEqual(step(3, 2, worth, [0, 0, 0]), [-6])

    def test_from_alone_there_is_nobody_to_keep_one(self):
        self.assertEqual(step(2, 2, [0, 3, 0, 0], [0, 1]), [0, 1, 0, 0])

    def test_those_in_no_way_touched_have_no_say(self):
        # Person 2, alone, would like 0 but is neither left nor come to.
        worth = [0, 3, 0, 0, 0, 0, 20, -20, 0]
        self.assertEqual(step(3, 2, worth, [0, 1, 2]), [0, 1, 0, 0, 1])


class TheAnswersForm(unittest.TestCase):

    def test_to_which_group_is_numbered_ahead_and_the_groups_behind(self):
        # Person 0 leaves group 0 empty for group 3; behind it that is group 0.
        worth = [0, 0, 0, 6] + [0] * 12
        self.assertEqual(step(4, 0, worth, [0, 1, 2, 3]), [0, 3, 0, 1, 2, 0])

    def test_alone_is_the_number_behind_all_groups(self):
        worth = [0, -1, 0, 0] + [0] * 12
        self.assertEqual(step(4, 0, worth, [0, 0, 0, 0]), [0, 1, 0, 1, 1, 1])
        self.assertEqual(step(4, 0, worth, [0, 0, 1, 2]), [0, 1, 0, 1, 0, 2])
        worth = [0, -1, -1, -1] + [0] * 12
        self.assertEqual(step(4, 0, worth, [0, 0, 1, 2]), [0, 3, 0, 1, 2, 3])

    def test_its_length(self):
        for n in range(1, 6):
            for w, worth, groups in drawn_inputs(n, 60, 40 + n):
                answer = step(n, w, worth, groups)
                self.assertIn(len(answer), (1, n + 2))
                self.assertEqual(len(answer) == 1, answer[0] < 0)
                self.assertEqual(answer[2:], numbers_of(n, blocks_of(answer[2:])) if answer[2:] else [])

    def test_groups_that_are_not_numbered_as_they_come(self):
        worth = [0, 0, 6, 0, 0, 0, 0, 0, 0]
        # Told are 0 alone, 1 alone, 2 alone: 2 is in group 2 as they come, whatever is handed over.
        for groups in ([0, 1, 2], [2, 1, 0], [1, 2, 0], [2, 0, 1]):
            self.assertEqual(step(3, 0, worth, groups), [0, 2, 0, 1, 0])
        # One group alone, with a number that isn't 0: alone is 1.
        worth = [0, 0, -6, 0, 0, 0, 0, 0, 0]
        self.assertEqual(step(3, 0, worth, [2, 2, 2]), [0, 1, 0, 1, 1])
        self.assertEqual(step(3, 0, worth, [1, 2, 1]), [0, 1, 0, 0, 1])


class WhereItUsuallyBreaks(unittest.TestCase):

    def test_one_person(self):
        for w in WAYS:
            for own in (-20, 0, 20):
                self.assertEqual(step(1, w, [own], [0]), [-6])

    def test_nobody_may_go(self):
        for w in WAYS:
            self.assertEqual(step(2, w, [0, 3, 3, 0], [0, 0]), [-6])
            self.assertEqual(step(2, w, [0, -3, -3, 0], [0, 1]), [-6])

    def test_one_who_runs_after_another_who_runs_away(self):
        self.assertEqual(step(2, 0, [0, 1, -1, 0], [0, 1]), [0, 1, 0, 0])
        self.assertEqual(step(2, 0, [0, 1, -1, 0], [0, 0]), [1, 1, 0, 1])

    def test_alone_and_back(self):
        # Person 1 leaves 0 and 2 to be alone, but goes to 2 where 0 isn't.
        worth = [0, 0, 0, -5, 0, 3, 0, 0, 0]
        self.assertEqual(step(3, 0, worth, [0, 0, 0]), [1, 1, 0, 1, 0])
        self.assertEqual(step(3, 0, worth, [0, 1, 2]), [1, 2, 0, 1, 1])
        # Who is alone doesn't go to be alone.
        self.assertEqual(step(3, 0, [0, -1, -1, -1, 0, -1, -1, -1, 0], [0, 1, 2]), [-6])

    def test_two_groups_as_good(self):
        worth = [0, 0, 4, 4] + [0] * 12
        self.assertEqual(step(4, 0, worth, [0, 1, 2, 3]), [0, 2, 0, 1, 0, 2])
        self.assertEqual(step(4, 0, worth, [0, 1, 3, 2]), [0, 2, 0, 1, 0, 2])
        # The last person: the least number lies ahead of their own.
        worth = [0] * 6 + [4, 4, 0]
        self.assertEqual(step(3, 0, worth, [0, 1, 2]), [2, 0, 0, 1, 0])

    def test_a_group_as_good_as_alone(self):
        worth = [0, -3, 0, 0, 0, 0, 0, 0, 0]
        self.assertEqual(step(3, 0, worth, [0, 0, 1]), [0, 1, 0, 1, 0])

    def test_worths_all_0(self):
        for n in range(1, 6):
            for w in WAYS:
                for ignored, worth, groups in drawn_inputs(n, 20, 90 + n, span=0):
                    self.assertEqual(step(n, w, worth, groups), [-6])

    def test_the_highest_and_the_lowest_worths(self):
        worth = [20] * 25
        self.assertEqual(step(5, 2, worth, [0, 1, 1, 1, 1]), [0, 1, 0, 0, 0, 0, 0])
        worth = [-20] * 25
        self.assertEqual(step(5, 2, worth, [0, 0, 0, 0, 0]), [0, 1, 0, 1, 1, 1, 1])


class WhatHolds(unittest.TestCase):

    def test_if_all_is_even_a_step_makes_all_together_have_more(self):
        for n in range(2, 6):
            for w, worth, groups in drawn_inputs(n, 150, 300 + n):
                worth = evened(n, worth)
                answer = step(n, w, worth, groups)
                if answer != [-6]:
                    behind = sum(have_all(n, worth, answer[2:]))
                    self.assertGreater(behind, sum(have_all(n, worth, groups)))

    def test_where_one_must_be_welcome_and_let_go_nobody_has_less(self):
        for n in range(2, 6):
            for ignored, worth, groups in drawn_inputs(n, 150, 400 + n, span=4):
                answer = step(n, 2, worth, groups)
                if answer != [-6]:
                    ahead = have_all(n, worth, groups)
                    behind = have_all(n, worth, answer[2:])
                    self.assertTrue(all(then >= now for then, now in zip(behind, ahead)))


class AsTheWordsSay(unittest.TestCase):
    """Beside the document's words as helper.py has them."""

    def test_all_small_inputs(self):
        for n, values in ((1, (0,)), (2, (-2, -1, 0, 1, 2)), (3, (-1, 0, 1))):
            for w, worth, groups in small_inputs(n, values):
                self.assertEqual(step(n, w, worth, groups), told_step(n, w, worth, groups), (n, w, worth, groups))

    def test_drawn_inputs(self):
        for n in range(1, 6):
            for span in (1, 3, 20):
                for w, worth, groups in drawn_inputs(n, 400, 10 * n + span, span):
                    self.assertEqual(step(n, w, worth, groups), told_step(n, w, worth, groups), (n, w, worth, groups))


if __name__ == "__main__":
    unittest.main()
