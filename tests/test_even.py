"""even: points 1 and 3."""

import unittest
from itertools import combinations, product

from movesthatend.groups import even
from tests.helper import HIGHEST, Untouchable, drawn_inputs, evened


def told_even(n, worth):
    """What even answers to inputs that are not refused: rows and columns, told apart from the package's way."""
    rows = [worth[n * person:n * person + n] for person in range(n)]
    columns = [worth[person::n] for person in range(n)]
    for person in range(n):
        # What one is worth to oneself stands in one's row and one's column alike.
        if rows[person] != columns[person]:
            return [0]
    return [1]


def even_worths(n, how_many, seed, span=20):
    """Worths that are all even, with any numbers where one is worth to oneself."""
    for ignored, worth, ignored_too in drawn_inputs(n, how_many, seed, span):
        yield evened(n, worth)


class Even(unittest.TestCase):

    def test_one_person(self):
        for own in range(-20, 21):
            self.assertEqual(even(1, [own]), [1])

    def test_two_people(self):
        self.assertEqual(even(2, [0, 3, 3, 0]), [1])
        self.assertEqual(even(2, [0, -3, -3, 0]), [1])
        self.assertEqual(even(2, [0, 20, 20, 0]), [1])
        self.assertEqual(even(2, [0, -20, -20, 0]), [1])

    def test_three_people(self):
        self.assertEqual(even(3, [0, 1, 2, 1, 0, 3, 2, 3, 0]), [1])
        self.assertEqual(even(3, [0, -1, 2, -1, 0, 0, 2, 0, 0]), [1])

    def test_four_people(self):
        self.assertEqual(even(4, [0, 1, 2, 3, 1, 0, 4, 5, 2, 4, 0, 6, 3, 5, 6, 0]), [1])

    def test_five_people(self):
        worth = [0, 1, 2, 3, 4, 1, 0, 5, 6, 7, 2, 5, 0, 8, 9, 3, 6, 8, 0, -10, 4, 7, 9, -10, 0]
        self.assertEqual(even(5, worth), [1])

    def test_worths_all_alike(self):
        for n in range(1, 6):
            for value in (-20, -1, 0, 1, 20):
                self.assertEqual(even(n, [value] * (n * n)), [1])

    def test_drawn(self):
        for n in range(1, 6):
            for worth in even_worths(n, 60, 800 + n):
                self.assertEqual(even(n, worth), [1], worth)


class NotEven(unittest.TestCase):

    def test_two_people(self):
        self.assertEqual(even(2, [0, 3, -2, 0]), [0])
        self.assertEqual(even(2, [0, 1, -1, 0]), [0])
        self.assertEqual(even(2, [0, -1, 1, 0]), [0])
        self.assertEqual(even(2, [0, 0, 1, 0]), [0])
        self.assertEqual(even(2, [0, 20, 19, 0]), [0])
        self.assertEqual(even(2, [0, -20, -19, 0]), [0])

    def test_worth_as_much_together_is_not_enough(self):
        # Round and round each is worth 1 to the next: all have as much as they are worth.
        self.assertEqual(even(3, [0, 1, 0, 0, 0, 1, 1, 0, 0]), [0])

    def test_even_about_the_other_corner_is_not_enough(self):
        # The same numbers from the last to the first.
        self.assertEqual(even(3, [0, 1, 2, 3, 0, 3, 2, 1, 0]), [0])

    def test_by_one_pair_alone_wherever_it_stands(self):
        for n in range(2, 6):
            for one, other in combinations(range(n), 2):
                for worth in even_worths(n, 6, 900 + n, span=19):
                    for place in (one * n + other, other * n + one):
                        for more in (-1, 1):
                            uneven = list(worth)
                            uneven[place] += more
                            self.assertEqual(even(n, uneven), [0], (one, other, uneven))

    def test_by_one_worth_alone_among_0(self):
        for n in range(2, 6):
            for place in range(n * n):
                for value in (-20, -1, 1, 20):
                    worth = [0] * (n * n)
                    worth[place] = value
                    own = place // n == place % n
                    self.assertEqual(even(n, worth), [1 if own else 0], worth)


class WhatOneIsWorthToOneself(unittest.TestCase):

    def test_it_means_nothing(self):
        for n in range(1, 6):
            for ignored, worth, ignored_too in drawn_inputs(n, 20, 950 + n):
                for told in (worth, evened(n, worth)):
                    answer = even(n, told)
                    for first in (-20, -1, 0, 7, 20):
                        other = list(told)
                        for person in range(n):
                            other[person * n + person] = (first + 20 + 9 * person) % 41 - 20
                        self.assertEqual(even(n, other), answer)

    def test_different_numbers_leave_all_even(self):
        self.assertEqual(even(2, [20, 3, 3, -20]), [1])
        self.assertEqual(even(3, [1, 4, 4, 4, 2, 4, 4, 4, 3]), [1])
        self.assertEqual(even(5, [-20, 0, 0, 0, 0, 0, -10, 0, 0, 0, 0, 0, 1, 0, 0, 0, 0, 0, 10, 0, 0, 0, 0, 0, 20]), [1])

    def test_too_high_or_too_low_it_is_refused_all_the_same(self):
        for n in range(1, 6):
            for person in range(n):
                for value in (21, -21):
                    worth = [0] * (n * n)
                    worth[person * n + person] = value
                    self.assertEqual(even(n, worth), [-22])


class EvenRefuses(unittest.TestCase):

    def test_how_many_people(self):
        for n in (0, 6, 7, 255, 65536, HIGHEST):
            for length in (0, 1, 4, 9, 16, 25, 27):
                self.assertEqual(even(n, [0] * length), [-22])
        # More than is ever handed in, but six people are too many by themselves.
        self.assertEqual(even(6, [0] * 36), [-22])

    def test_how_long_worth_is(self):
        for n in range(1, 6):
            for length in range(28):
                self.assertEqual(even(n, [0] * length), [1] if length == n * n else [-22])

    def test_worths_that_are_too_high_or_too_low(self):
        for n in range(1, 6):
            for place in range(n * n):
                for value in (21, -21, 22, -22, 2147483647, -2147483648):
                    worth = [0] * (n * n)
                    worth[place] = value
                    self.assertEqual(even(n, worth), [-22])

    def test_too_high_or_too_low_though_both_ways_round(self):
        self.assertEqual(even(2, [0, 21, 21, 0]), [-22])
        self.assertEqual(even(2, [0, -21, -21, 0]), [-22])

    def test_behind_a_pair_that_is_not_even(self):
        self.assertEqual(even(3, [0, 1, 0, 2, 0, 0, 0, 0, 21]), [-22])
        self.assertEqual(even(3, [0, 1, 0, 2, 0, 0, 0, -21, 0]), [-22])
        self.assertEqual(even(3, [0, 1, 0, 2, 0, 0, 0, 0]), [-22])
        self.assertEqual(even(3, [0, 1, 0, 2, 0, 0, 0, 0, 0, 0]), [-22])

    def test_several_refusals_at_once(self):
        self.assertEqual(even(0, []), [-22])
        self.assertEqual(even(0, [21]), [-22])
        self.assertEqual(even(6, [21] * 27), [-22])
        self.assertEqual(even(HIGHEST, [2147483647] * 27), [-22])
        self.assertEqual(even(2, [0, 0, -21]), [-22])
        self.assertEqual(even(2, [21, 0, 0, 0, -21]), [-22])
        self.assertEqual(even(5, []), [-22])


class EvenManners(unittest.TestCase):

    def some_inputs(self):
        for n in range(1, 6):
            for ignored, worth, ignored_too in drawn_inputs(n, 30, 700 + n):
                yield n, worth
                yield n, evened(n, worth)
        yield 2, [0, 0, 0, 21]
        yield 2, [0, 0, 0]
        yield 0, []

    def test_what_is_handed_in_is_not_changed(self):
        for n, worth in self.some_inputs():
            worth_in = Untouchable(worth)
            even(n, worth_in)
            self.assertEqual(list(worth_in), worth)

    def test_the_same_call_answers_the_same(self):
        for n, worth in self.some_inputs():
            first = even(n, worth)
            kept = list(first)
            first.append(99)
            first[0] = 99
            self.assertEqual(even(n, worth), kept)

    def test_the_answer_is_one_whole_number_in_a_new_list(self):
        for n, worth in self.some_inputs():
            answer = even(n, worth)
            self.assertIs(type(answer), list)
            self.assertEqual([type(number) for number in answer], [int])
            self.assertIsNot(answer, worth)

    def test_the_arguments_names(self):
        for n, worth in self.some_inputs():
            self.assertEqual(even(worth=worth, n=n), even(n, worth))


class AsTheWordsSay(unittest.TestCase):

    def test_all_small_inputs(self):
        for worth in product(range(-3, 4), repeat=4):
            self.assertEqual(even(2, list(worth)), told_even(2, list(worth)), worth)
        for worth in product((-1, 1), repeat=9):
            self.assertEqual(even(3, list(worth)), told_even(3, list(worth)), worth)

    def test_drawn_inputs(self):
        for n in range(1, 6):
            for ignored, worth, ignored_too in drawn_inputs(n, 300, 3000 + n, span=1):
                self.assertEqual(even(n, worth), told_even(n, worth), worth)


if __name__ == "__main__":
    unittest.main()
