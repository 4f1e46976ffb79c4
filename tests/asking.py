"""What the tests share: calls written as the interface tells, answers split call by call, and a second way to the
chances, which has nothing in common with the program's."""

from fractions import Fraction

from duelaims.duel import answers

GREATEST = 4294967295

# A bad shot, a middling and a sure one: one third, two thirds and always.
THREE = (3, 1, 2, 3)


def duel(below, *hits):
    return [0, below, len(hits)] + list(hits)


def aim(group, shot, to):
    return [1, group, shot, to]


def aims(group):
    return [2, group]


def chances_of_all(first):
    return [3, first]


def chances_of_set(group, first):
    return [4, group, first]


def best(group, shot):
    return [5, group, shot]


def better():
    return [6]


def improve(most):
    return [7, most]


def air():
    return [8]


def joined(calls):
    return [number for call in calls for number in call]


def split(told):
    """The answers one by one; a wrong count shows as a failure."""
    parts = []
    start = 0
    while start < len(told):
        end = start + 1 + told[start]
        if told[start] < 1 or end > len(told):
            raise AssertionError(f"an answer's count is wrong: {told}")
        parts.append(told[start + 1:end])
        start = end
    return parts


def ask(*calls):
    """The answers to the calls in one list, one answer for each."""
    if len(calls) > 40:
        raise AssertionError(f"{len(calls)} calls are more than a list may have")
    parts = split(answers(joined(calls)))
    if len(parts) != len(calls):
        raise AssertionError(f"{len(calls)} calls have {len(parts)} answers")
    return parts


def last(*calls):
    """The answer to the last of the calls."""
    return ask(*calls)[-1]


def sets_of(shots):
    """The numbers of all sets of two or more."""
    return [group for group in range(1 << shots) if group.bit_count() >= 2]


def inside(group):
    return [shot for shot in range(group.bit_length()) if group >> shot & 1]


def possible_aims(group, shot, shots):
    """The aims that a shot may have: the others by their numbers, then nobody."""
    return [other for other in inside(group) if other != shot] + [shots]


def all_aims(shots):
    """Calls that ask for every aim of a duel, to see whether any has changed."""
    return [aims(group) for group in sets_of(shots)]


def after(group, shot):
    """Who is at turn behind that shot, found number by number."""
    turn = (shot + 1) % 4
    while not group >> turn & 1:
        turn = (turn + 1) % 4
    return turn


def moves(below, hits, told_aims, group, shot):
    """Where one shot may lead to: a list of (chance, set, who is at turn)."""
    to = told_aims[(group, shot)]
    hit = Fraction(hits[shot], below) if to < len(hits) else Fraction(0)
    found = []
    if hit > 0:
        rest = group & ~(1 << to)
        found.append((hit, rest, after(rest, shot)))
    if hit < 1:
        found.append((1 - hit, group, after(group, shot)))
    return found


def reached(below, hits, told_aims, start):
    """The states of two or more that may come about, in the order in which they are found."""
    states = [start]
    for state in states:
        for move in moves(below, hits, told_aims, *state):
            if move[1].bit_count() > 1 and move[1:] not in states:
                states.append(move[1:])
    return states


def solved(rows):
    """The last columns of a square system behind Gauss's steps."""
    size = len(rows)
    for column in range(size):
        pivot = next(row for row in range(column, size) if rows[row][column] != 0)
        rows[column], rows[pivot] = rows[pivot], rows[column]
        factor = rows[column][column]
        rows[column] = [entry / factor for entry in rows[column]]
        for row in range(size):
            if row != column and rows[row][column] != 0:
                times = rows[row][column]
                rows[row] = [one - times * two for one, two in zip(rows[row], rows[column])]
    return [row[size:] for row in rows]


def by_equations(below, hits, told_aims, group, first):
    """The chances from one equation a state, all solved at once: each is left, then for ever."""
    states = reached(below, hits, told_aims, (group, first))
    places = {state: place for place, state in enumerate(states)}
    size, shots = len(states), len(hits)
    rows = []
    for state in states:
        row = [Fraction(0)] * (size + shots + 1)
        row[places[state]] = Fraction(1)
        silent = all(told_aims[(state[0], shot)] == shots or hits[shot] == 0 for shot in inside(state[0]))
        if silent:
            row[size + shots] = Fraction(1)
        else:
            for chance, rest, turn in moves(below, hits, told_aims, *state):
                if rest.bit_count() == 1:
                    row[size + turn] += chance
                else:
                    row[places[(rest, turn)]] -= chance
        rows.append(row)
    return solved(rows)[0]


def aims_as_at_first(hits):
    found = {}
    for group in sets_of(len(hits)):
        for shot in inside(group):
            found[(group, shot)] = min((-hits[other], other) for other in inside(group) if other != shot)[1]
    return found


def drawn(source, shots):
    """A duel with some aims changed: below, hits, aims, and the calls that make it."""
    below = source.choice((1, 2, 3, 7, 12, 59, 60))
    hits = [source.choice((0, below, source.randint(0, below), source.randint(0, below))) for shot in range(shots)]
    told_aims = aims_as_at_first(hits)
    calls = [duel(below, *hits)]
    # A list has at most 40 calls, and a few are asked behind these.
    for group, shot in source.sample(sorted(told_aims), min(len(told_aims), 20)):
        told_aims[(group, shot)] = source.choice(possible_aims(group, shot, shots))
        calls.append(aim(group, shot, told_aims[(group, shot)]))
    return below, hits, told_aims, calls
