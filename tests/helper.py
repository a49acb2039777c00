"""What several test files need: the document's words written out a second time, inputs, and lists that can't change.

Groups are sets of people here, and what each one has is counted anew ahead of a move and behind it,
so that a slip in the package is not made here in the same way.
"""

from functools import lru_cache
from itertools import product

HIGHEST = 4294967295
WAYS = (0, 1, 2)


def blocks_of(groups):
    """The groups as sets of people, in the order in which they first come."""
    blocks = []
    for number in dict.fromkeys(groups):
        blocks.append(frozenset(person for person, own in enumerate(groups) if own == number))
    return blocks


def numbers_of(n, blocks):
    """Each person's group, groups numbered as they first come."""
    ordered = sorted((block for block in blocks if block), key=min)
    return [[person in block for block in ordered].index(True) for person in range(n)]


def has(n, worth, blocks, person):
    """What one has."""
    own = [block for block in blocks if person in block][0]
    return sum(worth[n * person + other] for other in own if other != person)


def have_all(n, worth, groups):
    """What each one has, person by person."""
    return [has(n, worth, blocks_of(groups), person) for person in range(n)]


def told_moves(n, w, worth, groups, person):
    """Each move the person may make by the way: what they have then, to which group, and the groups then."""
    ahead = blocks_of(groups)
    home = [block for block in ahead if person in block][0]
    found = []
    for number, target in enumerate(ahead + [frozenset()]):
        if target == home:
            continue
        behind = [block - {person} for block in ahead + [frozenset()]]
        behind[number] = target | {person}
        behind = [block for block in behind if block]
        rather = has(n, worth, behind, person) > has(n, worth, ahead, person)
        welcome = all(has(n, worth, behind, other) >= has(n, worth, ahead, other) for other in target)
        let_go = all(has(n, worth, behind, other) >= has(n, worth, ahead, other) for other in home - {person})
        if (rather, rather and welcome, rather and welcome and let_go)[w]:
            found.append((has(n, worth, behind, person), number, numbers_of(n, behind)))
    return found


def told_step(n, w, worth, groups):
    """What step answers to inputs that are not refused."""
    for person in range(n):
        found = told_moves(n, w, worth, groups, person)
        if found:
            most, number, behind = sorted(found, key=lambda move: (-move[0], move[1]))[0]
            return [person, number] + behind
    return [-6]


def told_run(n, w, worth, groups):
    """What run answers to inputs that are not refused."""
    path = [tuple(numbers_of(n, blocks_of(groups)))]
    while len(set(path)) == len(path):
        answer = told_step(n, w, worth, list(path[-1]))
        if answer == [-6]:
            return [len(path) - 1, 1] + list(path[-1])
        path.append(tuple(answer[2:]))
    return [len(path) - 1, 0] + list(path[-1])


def told_list(n, w, m, worth, groups):
    """What list_of answers to inputs that are not refused."""
    moves = []
    while len(moves) < m:
        answer = told_step(n, w, worth, groups)
        if answer == [-6]:
            break
        moves.append(answer[:2])
        groups = answer[2:]
    return [len(moves)] + [number for move in moves for number in move]


@lru_cache(None)
def all_ways(n):
    """All ways to be in groups, each once."""
    return sorted({tuple(numbers_of(n, blocks_of(groups))) for groups in product(range(n), repeat=n)})


def told_all_from_each(n, w, worth):
    """What all_of answers from each way to be in groups, where it is not refused.

    First what comes of one move from each of all ways there are, then of one move or more.
    """
    ways = all_ways(n)
    next_ones = {
        way: {tuple(move[2]) for person in range(n) for move in told_moves(n, w, worth, list(way), person)}
        for way in ways
    }
    later = {way: set(next_ones[way]) for way in ways}
    for between in ways:
        for way in ways:
            if between in later[way]:
                later[way] |= later[between]
    answers = {}
    for way in ways:
        come_to = later[way] | {way}
        rests = any(not next_ones[one] for one in come_to)
        goes_round = any(one in later[one] for one in come_to)
        answers[way] = [len(come_to), int(rests), int(goes_round)]
    return answers


def numbers_from(seed):
    """Numbers that look drawn but are the same each time."""
    state = seed
    while True:
        state = (state * 6364136223846793005 + 1442695040888963407) % 2 ** 64
        yield state >> 33


def drawn_inputs(n, how_many, seed, span=20):
    """Inputs that are not refused: the way, worth, and groups numbered in any manner."""
    draw = numbers_from(seed)
    for ignored in range(how_many):
        w = next(draw) % 3
        worth = [next(draw) % (2 * span + 1) - span for ignored_too in range(n * n)]
        groups = [next(draw) % n for ignored_too in range(n)]
        yield w, worth, groups


def small_inputs(n, values):
    """All inputs that have these worths alone; what one is worth to oneself is 0."""
    places = [n * one + other for one in range(n) for other in range(n) if one != other]
    for chosen in product(values, repeat=len(places)):
        worth = [0] * (n * n)
        for place, value in zip(places, chosen):
            worth[place] = value
        for w, groups in product(WAYS, product(range(n), repeat=n)):
            yield w, worth, list(groups)


def evened(n, worth):
    """The worths with each as much to each as the other way round."""
    return [worth[n * min(one, other) + max(one, other)] for one in range(n) for other in range(n)]


def refuse_change(self, *ignored, **ignored_too):
    raise AssertionError("what was handed in was changed")


class Untouchable(list):
    """A list that tells when it is changed, if only for a while."""

    __setitem__ = __delitem__ = __iadd__ = __imul__ = refuse_change
    append = clear = extend = insert = pop = remove = reverse = sort = refuse_change


class PeopleAndGroupsRefusals:
    """The refusals of point 1 but for the way; `call` is the function asked, with n, w, worth, groups."""

    def assert_refused(self, n, w, worth, groups):
        self.assertEqual(type(self).call(n, w, worth, groups), [-22], (n, w, worth, groups))

    def assert_taken(self, n, w, worth, groups):
        self.assertNotEqual(type(self).call(n, w, worth, groups), [-22], (n, w, worth, groups))

    def test_how_many_people(self):
        for n in (0, 6, 7, 255, 65536, HIGHEST):
            for length in (0, 1, 4, 25, 27):
                for people in (0, 1, 5, 6, 7):
                    self.assert_refused(n, 0, [0] * length, [0] * people)
        # More than is ever handed in, but six people are too many by themselves.
        self.assert_refused(6, 0, [0] * 36, [0] * 6)
        for n in range(1, 6):
            self.assert_taken(n, 0, [0] * (n * n), [0] * n)

    def test_how_long_worth_is(self):
        for n in range(1, 6):
            for length in range(28):
                if length != n * n:
                    self.assert_refused(n, 0, [0] * length, [0] * n)

    def test_worths_that_are_too_high_or_too_low(self):
        for n in range(1, 6):
            for place in range(n * n):
                for value in (21, -21, 22, -22, 2147483647, -2147483648):
                    worth = [0] * (n * n)
                    worth[place] = value
                    self.assert_refused(n, 0, worth, [0] * n)
                for value in (20, -20):
                    worth = [0] * (n * n)
                    worth[place] = value
                    self.assert_taken(n, 0, worth, [0] * n)

    def test_how_long_groups_is(self):
        for n in range(1, 6):
            for length in range(8):
                if length != n:
                    self.assert_refused(n, 0, [0] * (n * n), [0] * length)

    def test_groups_numbers_that_are_too_high(self):
        for n in range(1, 6):
            for person in range(n):
                for number in (n, n + 1, 7, HIGHEST):
                    groups = [0] * n
                    groups[person] = number
                    self.assert_refused(n, 0, [0] * (n * n), groups)
                groups = [0] * n
                groups[person] = n - 1
                self.assert_taken(n, 0, [0] * (n * n), groups)

    def test_a_refusal_though_somebody_might_go(self):
        self.assert_taken(2, 0, [0, 1, 1, 0], [0, 1])
        self.assert_refused(2, 0, [21, 1, 1, 0], [0, 1])
        self.assert_refused(2, 0, [0, 1, 1, -21], [0, 1])
        self.assert_refused(2, 0, [0, 1, 1, 0], [0, 2])
        self.assert_refused(2, 0, [0, 1, 1, 0], [0, 1, 0])

    def test_several_refusals_at_once(self):
        self.assert_refused(0, 3, [], [])
        self.assert_refused(6, HIGHEST, [21] * 27, [6] * 7)
        self.assert_refused(HIGHEST, HIGHEST, [2147483647] * 27, [HIGHEST] * 7)
        self.assert_refused(2, 3, [0, 0, 0, -21], [2, 2])
        self.assert_refused(2, 3, [0, 0, 0, 0], [0, 2])
        self.assert_refused(2, 0, [0, 0, 0], [0])
        self.assert_refused(3, 3, [], [])


class Refusals(PeopleAndGroupsRefusals):
    """The refusals of point 1, the way among them."""

    def test_ways_there_are_not(self):
        for n in range(1, 6):
            for w in (3, 4, 255, HIGHEST):
                self.assert_refused(n, w, [0] * (n * n), [0] * n)
            for w in WAYS:
                self.assert_taken(n, w, [0] * (n * n), [0] * n)

    def test_a_way_there_is_not_though_somebody_might_go(self):
        self.assert_taken(2, 2, [0, 1, 1, 0], [0, 1])
        self.assert_refused(2, 3, [0, 1, 1, 0], [0, 1])


class Manners:
    """What the interface says of every call with n, w, worth, groups; `call` is the function asked."""

    def some_inputs(self):
        for n in range(1, 6):
            for w, worth, groups in drawn_inputs(n, 40, 700 + n):
                yield n, w, worth, groups
        yield 2, 0, [0, 0, 0, 21], [0, 1]
        yield 2, 3, [0, 0, 0, 0], [1, 0]
        yield 0, 0, [], []

    def test_what_is_handed_in_is_not_changed(self):
        for n, w, worth, groups in self.some_inputs():
            worth_in = Untouchable(worth)
            groups_in = Untouchable(groups)
            type(self).call(n, w, worth_in, groups_in)
            self.assertEqual(list(worth_in), worth)
            self.assertEqual(list(groups_in), groups)

    def test_the_same_call_answers_the_same(self):
        for n, w, worth, groups in self.some_inputs():
            first = type(self).call(n, w, worth, groups)
            kept = list(first)
            first.append(99)
            first[0] = 99
            self.assertEqual(type(self).call(n, w, worth, groups), kept)

    def test_the_answer_is_a_new_list_of_whole_numbers(self):
        for n, w, worth, groups in self.some_inputs():
            answer = type(self).call(n, w, worth, groups)
            self.assertIs(type(answer), list)
            self.assertTrue(all(type(number) is int for number in answer), answer)
            self.assertIsNot(answer, worth)
            self.assertIsNot(answer, groups)

    def test_the_arguments_names(self):
        for n, w, worth, groups in self.some_inputs():
            self.assertEqual(
                type(self).call(n=n, w=w, worth=worth, groups=groups), type(self).call(n, w, worth, groups)
            )

    def test_other_numbers_for_the_same_groups(self):
        for n, w, worth, groups in self.some_inputs():
            if n > 1 and w < 3 and max(worth) <= 20:
                turned = [(number + 1) % n for number in groups]
                mirrored = [n - 1 - number for number in groups]
                as_they_come = numbers_of(n, blocks_of(groups))
                answer = type(self).call(n, w, worth, as_they_come)
                for other in (groups, turned, mirrored):
                    self.assertEqual(type(self).call(n, w, worth, other), answer)

    def test_what_one_is_worth_to_oneself_means_nothing(self):
        for n, w, worth, groups in self.some_inputs():
            if n > 0 and w < 3 and max(worth) <= 20:
                answer = type(self).call(n, w, worth, groups)
                for own in (-20, -1, 0, 1, 20):
                    other = list(worth)
                    for person in range(n):
                        other[person * n + person] = own
                    self.assertEqual(type(self).call(n, w, other, groups), answer)
