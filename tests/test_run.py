"""run: points 1 and 2, and what holds of runs."""

import unittest
from itertools import product

from movesthatend.groups import run, step
from tests.helper import (
    WAYS, Manners, Refusals, blocks_of, drawn_inputs, evened, numbers_of, small_inputs, told_run
)


class RunRefuses(Refusals, unittest.TestCase):
    call = run


class RunManners(Manners, unittest.TestCase):
    call = run


class NobodyMayGoFromTheFirst(unittest.TestCase):

    def test_one_person(self):
        for w in WAYS:
            for own in (-20, 0, 20):
                self.assertEqual(run(1, w, [own], [0]), [0, 1, 0])

    def test_two_people(self):
        for w in WAYS:
            self.assertEqual(run(2, w, [0, 3, 3, 0], [0, 0]), [0, 1, 0, 0])
            self.assertEqual(run(2, w, [0, -3, -3, 0], [0, 1]), [0, 1, 0, 1])

    def test_worths_all_0(self):
        for n in range(1, 6):
            for w in WAYS:
                for ignored, worth, groups in drawn_inputs(n, 20, 90 + n, span=0):
                    self.assertEqual(run(n, w, worth, groups), [0, 1] + numbers_of(n, blocks_of(groups)))

    def test_groups_are_numbered_as_they_come_all_the_same(self):
        self.assertEqual(run(3, 0, [0] * 9, [2, 0, 2]), [0, 1, 0, 1, 0])
        self.assertEqual(run(3, 0, [0] * 9, [2, 2, 2]), [0, 1, 0, 0, 0])
        self.assertEqual(run(5, 1, [0] * 25, [4, 3, 4, 1, 3]), [0, 1, 0, 1, 0, 2, 1])

    def test_not_welcome_and_not_let_go(self):
        self.assertEqual(run(2, 1, [0, 3, -2, 0], [0, 1]), [0, 1, 0, 1])
        self.assertEqual(run(2, 2, [0, 3, -2, 0], [0, 0]), [0, 1, 0, 0])


class AtRestBehindMoves(unittest.TestCase):

    def test_one_move(self):
        for w in WAYS:
            self.assertEqual(run(2, w, [0, 3, 3, 0], [0, 1]), [1, 1, 0, 0])
            self.assertEqual(run(2, w, [0, -3, -3, 0], [0, 0]), [1, 1, 0, 1])

    def test_all_come_together(self):
        # 0 goes to 1; then one behind another goes to those two, where there are most.
        for w in WAYS:
            self.assertEqual(run(5, w, [1] * 25, [0, 1, 2, 3, 4]), [4, 1, 0, 0, 0, 0, 0])

    def test_all_go_apart(self):
        for w in WAYS:
            self.assertEqual(run(5, w, [-1] * 25, [0] * 5), [4, 1, 0, 1, 2, 3, 4])

    def test_as_one_likes(self):
        # 0 to 1; 1 to 2; 0 to both; 1 away from both.
        worth = [0, 2, 2, -3, 0, 1, 4, 0, 0]
        self.assertEqual(run(3, 0, worth, [0, 1, 2]), [4, 1, 0, 1, 0])

    def test_where_welcome(self):
        # 0 to both; 2 away from both; 0 from 1 to 2.
        worth = [0, 0, 2, 2, 0, 1, 2, -4, 0]
        self.assertEqual(run(3, 1, worth, [0, 1, 1]), [3, 1, 0, 1, 0])

    def test_where_welcome_and_let_go(self):
        # 0 away from both; 1 away from 2; 0 to 2.
        worth = [0, -4, 2, -2, 0, -3, 0, -1, 0]
        self.assertEqual(run(3, 2, worth, [0, 0, 0]), [3, 1, 0, 1, 0])

    def test_four_people(self):
        worth = [0, -3, 2, 1, 0, 0, -2, -3, -1, 1, 0, 3, 0, -1, 2, 0]
        self.assertEqual(run(4, 2, worth, [0, 0, 1, 0]), [4, 1, 0, 1, 0, 0])

    def test_alone_and_back(self):
        # 0 goes to be alone; 1 goes to 0; 0 goes back to 2.
        worth = [0, -3, 2, 1, 0, -2, 0, 0, 0]
        self.assertEqual(run(3, 0, worth, [0, 0, 0]), [3, 1, 0, 1, 0])

    def test_two_groups_as_good(self):
        # 0 to 1, as good as 2; 1 to 2, as good as alone; 0 to both; 1 away. Had 0 gone to 2 that were all.
        worth = [0, 1, 1, -1, 0, 0, 0, 0, 0]
        self.assertEqual(run(3, 0, worth, [0, 1, 2]), [4, 1, 0, 1, 0])

    def test_groups_that_are_not_numbered_as_they_come(self):
        worth = [0, 2, 2, -3, 0, 1, 4, 0, 0]
        for groups in ([2, 0, 1], [1, 0, 2], [2, 1, 0]):
            self.assertEqual(run(3, 0, worth, groups), [4, 1, 0, 1, 0])


class WhatHasBeenComesAgain(unittest.TestCase):

    def test_one_who_runs_after_another_who_runs_away(self):
        worth = [0, 1, -1, 0]
        self.assertEqual(run(2, 0, worth, [0, 1]), [2, 0, 0, 1])
        self.assertEqual(run(2, 0, worth, [0, 0]), [2, 0, 0, 0])
        self.assertEqual(run(2, 0, worth, [1, 0]), [2, 0, 0, 1])
        self.assertEqual(run(2, 0, worth, [1, 1]), [2, 0, 0, 0])

    def test_it_ends_where_one_must_be_welcome_or_let_go(self):
        worth = [0, 1, -1, 0]
        self.assertEqual(run(2, 1, worth, [0, 1]), [0, 1, 0, 1])
        self.assertEqual(run(2, 1, worth, [0, 0]), [1, 1, 0, 1])
        self.assertEqual(run(2, 2, worth, [0, 0]), [0, 1, 0, 0])

    def test_round_to_what_was_told_at_first(self):
        worth = [0, 1, 1, -3, 0, 2, -2, -4, 0]
        self.assertEqual(run(3, 0, worth, [1, 1, 2]), [5, 0, 0, 0, 1])

    def test_only_behind_some_moves(self):
        # 0 away from both, for good; then 1 runs away from 2, and 2 runs after 1.
        worth = [0, -1, -1, -1, 0, -1, -1, 1, 0]
        self.assertEqual(run(3, 0, worth, [0, 0, 0]), [3, 0, 0, 1, 1])
        # 0 away from both; 1 away from 2; then 2 runs after 0, and 0 runs away.
        worth = [0, -1, -1, -1, 0, -1, 1, 0, 0]
        self.assertEqual(run(3, 0, worth, [0, 0, 0]), [4, 0, 0, 1, 2])

    def test_only_behind_some_moves_where_one_must_be_welcome(self):
        worth = [0, 3, -4, 1, 5, 9, 0, -2, 2, 7, -3, -6, 0, 5, 1, -1, 7, 0, 0, 3, 1, -9, 6, 7, 0]
        self.assertEqual(run(5, 1, worth, [1, 1, 0, 3, 4]), [7, 0, 0, 1, 2, 1, 0])

    def test_a_long_way_round(self):
        worth = [0, -8, 9, -2, -8, 0, 0, 8, -5, -7, 4, -8, 0, 9, 1, -4, 4, -3, 0, 5, 5, -6, -3, 6, 0]
        self.assertEqual(run(5, 0, worth, [4, 4, 0, 3, 3]), [17, 0, 0, 0, 0, 0, 1])

    def test_alone_and_back(self):
        # 1 goes to both; 0 goes to be alone; 2 goes to 0, as good as alone: as at first.
        worth = [0, -1, 0, 1, 0, 1, 0, -1, 0]
        self.assertEqual(run(3, 0, worth, [0, 1, 0]), [3, 0, 0, 1, 0])


class TheAnswersForm(unittest.TestCase):

    def test_what_it_says_is_so(self):
        for n in range(1, 6):
            for w, worth, groups in drawn_inputs(n, 150, 60 + n, span=5):
                answer = run(n, w, worth, groups)
                self.assertEqual(len(answer), n + 2)
                self.assertIn(answer[1], (0, 1))
                now = answer[2:]
                self.assertEqual(now, numbers_of(n, blocks_of(now)))
                self.assertEqual(step(n, w, worth, now) == [-6], answer[1] == 1)

    def test_it_is_step_behind_step(self):
        for n in range(1, 6):
            for w, worth, groups in drawn_inputs(n, 150, 80 + n, span=5):
                answer = run(n, w, worth, groups)
                path = [numbers_of(n, blocks_of(groups))]
                for ignored in range(answer[0]):
                    self.assertEqual(path.count(path[-1]), 1)
                    path.append(step(n, w, worth, path[-1])[2:])
                self.assertEqual(path[-1], answer[2:])
                self.assertEqual(path.count(path[-1]), 2 - answer[1])


class WhatHolds(unittest.TestCase):

    def test_if_all_is_even_it_ends_at_rest(self):
        for between in product(range(-2, 3), repeat=3):
            worth = [0, between[0], between[1], between[0], 0, between[2], between[1], between[2], 0]
            for w in WAYS:
                for groups in ([0, 0, 0], [0, 0, 1], [0, 1, 0], [0, 1, 1], [0, 1, 2]):
                    self.assertEqual(run(3, w, worth, groups)[1], 1)
        for n in range(1, 6):
            for w, worth, groups in drawn_inputs(n, 200, 500 + n):
                self.assertEqual(run(n, w, evened(n, worth), groups)[1], 1)

    def test_where_one_must_be_welcome_and_let_go_it_ends_at_rest(self):
        for w, worth, groups in small_inputs(3, (-1, 0, 1)):
            if w == 2:
                self.assertEqual(run(3, w, worth, groups)[1], 1)
        for n in range(1, 6):
            for ignored, worth, groups in drawn_inputs(n, 200, 600 + n):
                self.assertEqual(run(n, 2, worth, groups)[1], 1)


class AsTheWordsSay(unittest.TestCase):
    """Beside the document's words as helper.py has them."""

    def test_all_small_inputs(self):
        for n, values in ((1, (0,)), (2, (-2, -1, 0, 1, 2)), (3, (-1, 1))):
            for w, worth, groups in small_inputs(n, values):
                self.assertEqual(run(n, w, worth, groups), told_run(n, w, worth, groups), (n, w, worth, groups))

    def test_drawn_inputs(self):
        for n in range(1, 6):
            for span in (1, 3, 20):
                for w, worth, groups in drawn_inputs(n, 200, 1000 + 10 * n + span, span):
                    self.assertEqual(run(n, w, worth, groups), told_run(n, w, worth, groups), (n, w, worth, groups))


if __name__ == "__main__":
    unittest.main()
