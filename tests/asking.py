"""What the tests share: calls written as the interface tells, and answers split call by call."""

from duelaims.duel import answers

GREATEST = 4294967295

# A bad shot, a middling and a sure one: one third, two thirds and always.
THREE = (3, 1, 2, 3)


def duel(below, *hits):
    return [0, below, len(hits)] + list(hits)


def aim(group, shot, to):
    return [1, group, shot, to]


def aims(group):
    return [2, group]


def chances_of_all(first):
    return [3, first]


def chances_of_set(group, first):
    return [4, group, first]


def joined(calls):
    return [number for call in calls for number in call]


def split(told):
    """The answers one by one; a wrong count shows as a failure."""
    parts = []
    start = 0
    while start < len(told):
        end = start + 1 + told[start]
        if told[start] < 1 or end > len(told):
            raise AssertionError(f"an answer's count is wrong: {told}")
        parts.append(told[start + 1:end])
        start = end
    return parts


def ask(*calls):
    """The answers to the calls in one list, one answer for each."""
    parts = split(answers(joined(calls)))
    if len(parts) != len(calls):
        raise AssertionError(f"{len(calls)} calls have {len(parts)} answers")
    return parts


def last(*calls):
    """The answer to the last of the calls."""
    return ask(*calls)[-1]


def sets_of(shots):
    """The numbers of all sets of two or more."""
    return [group for group in range(1 << shots) if group.bit_count() >= 2]


def inside(group):
    return [shot for shot in range(group.bit_length()) if group >> shot & 1]


def all_aims(shots):
    """Calls that ask for every aim of a duel, to see whether any has changed."""
    return [aims(group) for group in sets_of(shots)]
