"""Moves of people from group to group, one behind another.

What person `other` is worth to `person` stands in worth at person * n + other.
"""

REFUSED = -22
NOBODY_MAY_GO = -6

MOST_PEOPLE = 5
MOST_WORTH = 20
MOST_MOVES = 60

WHERE_WELCOME = 1
WHERE_LET_GO = 2
LAST_WAY = 2


def worth_is_told(n, worth):
    """Whether there are 1 to 5 people, and worth has each one's worth to each."""
    if n < 1 or n > MOST_PEOPLE or len(worth) != n * n:
        return False
    for value in worth:
        if value < -MOST_WORTH or value > MOST_WORTH:
            return False
    return True


def groups_are_told(n, groups):
    """Whether groups has a number below n for each person."""
    if len(groups) != n:
        return False
    for number in groups:
        if number >= n:
            return False
    return True


def is_refused(n, w, worth, groups):
    """Whether one of the refusals is due; all of them bear one number, so their order doesn't show."""
    return not worth_is_told(n, worth) or not groups_are_told(n, groups) or w > LAST_WAY


def numbered_as_they_come(groups):
    """The same groups, in a new list, numbered from 0 as they first come."""
    new_numbers = {}
    answer = []
    for number in groups:
        if number not in new_numbers:
            new_numbers[number] = len(new_numbers)
        answer.append(new_numbers[number])
    return answer


def has_with(n, worth, groups, person, number):
    """What all others of that group are worth to the person, who may be in it or not.

    Nobody is in the group behind all others, so this is 0 for being alone.
    """
    together = 0
    for other in range(n):
        if other != person and groups[other] == number:
            together += worth[person * n + other]
    return together


def is_welcome(n, worth, groups, person, number):
    """Whether nobody in that other group would have less if the person came."""
    for other in range(n):
        if groups[other] == number and worth[other * n + person] < 0:
            return False
    return True


def is_let_go(n, worth, groups, person):
    """Whether nobody whom the person leaves would have less by it."""
    for other in range(n):
        if other != person and groups[other] == groups[person] and worth[other * n + person] > 0:
            return False
    return True


def may_go(n, w, worth, groups, person, number):
    """Whether the person may go to that group by the way w.

    Nobody has more where they are than where they are, so one's own group needs no look of its own.
    """
    if has_with(n, worth, groups, person, number) <= has_with(n, worth, groups, person, groups[person]):
        return False
    if w >= WHERE_WELCOME and not is_welcome(n, worth, groups, person, number):
        return False
    if w >= WHERE_LET_GO and not is_let_go(n, worth, groups, person):
        return False
    return True


def where_one_may_go(n, w, worth, groups, person):
    """The numbers of the groups the person may go to; groups are numbered as they come."""
    alone = max(groups) + 1
    return [number for number in range(alone + 1) if may_go(n, w, worth, groups, person, number)]


def best_group(n, w, worth, groups, person):
    """The number of the group the person goes to, or None if they may go nowhere."""
    best = None
    most = 0
    for number in where_one_may_go(n, w, worth, groups, person):
        there = has_with(n, worth, groups, person, number)
        # Only more takes the place of what was found: of like ones the least number stays.
        if best is None or there > most:
            best = number
            most = there
    return best


def first_move(n, w, worth, groups):
    """Who goes, and to which group, or None if nobody may go; groups are numbered as they come."""
    for person in range(n):
        number = best_group(n, w, worth, groups, person)
        if number is not None:
            return (person, number)
    return None


def moved(groups, person, number):
    """The groups, in a new list, numbered anew behind the person's move."""
    behind = list(groups)
    behind[person] = number
    return numbered_as_they_come(behind)


def step(n, w, worth, groups):
    """Who goes, to which group, and each person's group then; or a refusal's number alone."""
    if is_refused(n, w, worth, groups):
        return [REFUSED]
    ahead = numbered_as_they_come(groups)
    move = first_move(n, w, worth, ahead)
    if move is None:
        return [NOBODY_MAY_GO]
    return [move[0], move[1]] + moved(ahead, move[0], move[1])


def run(n, w, worth, groups):
    """How many moves are made, 1 if it ends at rest, else 0, and each person's group then; or a refusal's number alone.

    Five people can be in groups in 52 ways, so something comes again behind at most 52 moves.
    """
    if is_refused(n, w, worth, groups):
        return [REFUSED]
    now = numbered_as_they_come(groups)
    been = []
    while now not in been:
        move = first_move(n, w, worth, now)
        if move is None:
            return [len(been), 1] + now
        been.append(now)
        now = moved(now, move[0], move[1])
    return [len(been), 0] + now


def list_of(n, w, m, worth, groups):
    """How many moves are made, up to m, then of each who goes and to which group; or a refusal's number alone.

    What has been may come again: that doesn't end it.
    """
    if is_refused(n, w, worth, groups) or m > MOST_MOVES:
        return [REFUSED]
    now = numbered_as_they_come(groups)
    moves = []
    for made in range(m):
        move = first_move(n, w, worth, now)
        if move is None:
            return [made] + moves
        moves = moves + [move[0], move[1]]
        now = moved(now, move[0], move[1])
    return [m] + moves


def even(n, worth):
    """1 if each is worth to each as much as the other way round, else 0; or a refusal's number alone."""
    if not worth_is_told(n, worth):
        return [REFUSED]
    for person in range(n):
        for other in range(person):
            if worth[person * n + other] != worth[other * n + person]:
                return [0]
    return [1]


def total(n, worth, groups):
    """0, then what all have, together, which may be below 0; or a refusal's number alone."""
    if not worth_is_told(n, worth) or not groups_are_told(n, groups):
        return [REFUSED]
    together = 0
    for person in range(n):
        together += has_with(n, worth, groups, person, groups[person])
    return [0, together]


def behind_one_move(n, w, worth, groups):
    """What comes of each move that anybody may make; the same may stand there more than once."""
    answer = []
    for person in range(n):
        for number in where_one_may_go(n, w, worth, groups, person):
            answer.append(tuple(moved(groups, person, number)))
    return answer


def ways_come_to(n, w, worth, groups):
    """Of each way to be in groups that may be come to, as a tuple, what comes of each move from there."""
    onward = {}
    waiting = [tuple(groups)]
    while len(waiting) > 0:
        now = waiting.pop()
        if now not in onward:
            onward[now] = behind_one_move(n, w, worth, now)
            waiting.extend(onward[now])
    return onward


def one_is_at_rest(onward):
    """Whether no move leads on from one of the ways to be in groups."""
    return any([len(onward[now]) == 0 for now in onward])


def that_lead_on(onward):
    """Those ways to be in groups from which a move leads to one that is still there, and these moves alone."""
    answer = {}
    for now in onward:
        kept = [then for then in onward[now] if then in onward]
        if len(kept) > 0:
            answer[now] = kept
    return answer


def may_go_round(onward):
    """Whether some moves lead from one of the ways to be in groups to that again.

    What leads nowhere is taken out till nothing more goes: what is left then leads on for ever,
    and as there are only so many ways to be in groups, that is round.
    """
    left = onward
    fewer = that_lead_on(left)
    while len(fewer) < len(left):
        left = fewer
        fewer = that_lead_on(left)
    return len(left) > 0


def all_of(n, w, worth, groups):
    """How many ways to be in groups may be come to, then whether one is at rest, and whether it may go round: 1 or 0.

    Or a refusal's number alone.
    """
    if is_refused(n, w, worth, groups):
        return [REFUSED]
    onward = ways_come_to(n, w, worth, numbered_as_they_come(groups))
    return [len(onward), 1 if one_is_at_rest(onward) else 0, 1 if may_go_round(onward) else 0]
