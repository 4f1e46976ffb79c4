"""A duel of two to four shots who shoot in turn: their aims, the exact chances that these give, and better aims.

A set of shots is a whole number: 1 if shot 0 is in it, 2 if shot 1 is, 4, 8 likewise, added.
To aim at nobody is to aim at the number behind the last shot.
Chances are kept as whole weights, one for each shot, then one for ever: since chances add up to 1,
the sum of the weights is what stands below each of them.
"""

CALL_DUEL = 0
CALL_AIM = 1
CALL_AIMS = 2
CALL_ALL = 3
CALL_SET = 4
CALL_BEST = 5
CALL_BETTER = 6
CALL_IMPROVE = 7

# By the number of a call that has no row: how many whole numbers stand behind it.
WHOLE_NUMBERS = {1: 3, 2: 1, 3: 1, 4: 2, 5: 2, 6: 0, 7: 1, 8: 0}

FEWEST_SHOTS = 2
MOST_SHOTS = 4
MOST_BELOW = 60
MOST_CHANGES = 30


class Duel:
    """Shot i hits hits[i] times in below; aims tells at whom a shot aims, by (set, shot)."""

    def __init__(self):
        self.below = 1
        self.hits = [1, 1]
        self.aims = first_aims(self.hits)


def members(group):
    """The shots of a set, rising."""
    return [shot for shot in range(MOST_SHOTS) if (group >> shot) & 1 == 1]


def best_shot(hits, among):
    """The one who hits most often; among rises, so of as good ones the lower stays."""
    best = among[0]
    for shot in among:
        if hits[shot] > hits[best]:
            best = shot
    return best


def first_aims(hits):
    """The aims as at first: each aims at the best of the others in the set."""
    aims = {}
    for group in range(1 << len(hits)):
        inside = members(group)
        if len(inside) >= 2:
            for shot in inside:
                others = [other for other in inside if other != shot]
                aims[(group, shot)] = best_shot(hits, others)
    return aims


def in_turn(group, first):
    """The shots of a set as they are at turn, from first on."""
    inside = members(group)
    return [shot for shot in inside if shot >= first] + [shot for shot in inside if shot < first]


def next_at_turn(group, shot):
    """Who is at turn behind that shot; one who is alone has nobody behind."""
    order = in_turn(group, shot)
    return order[1] if len(order) > 1 else shot


def surely(duel, place):
    """The weights where one outcome is certain: that shot is left, or, behind the last shot, it is for ever."""
    weights = [0] * (len(duel.hits) + 1)
    weights[place] = 1
    return weights


def mixed(parts):
    """The weights where each of the parts (how much it counts, its weights) may come about."""
    below = 1
    for part in parts:
        below = below * sum(part[1])
    total = [0] * len(parts[0][1])
    for part in parts:
        times = part[0] * (below // sum(part[1]))
        total = [one + times * more for one, more in zip(total, part[1])]
    return total


def first_hits(duel, known, group, first, own):
    """For each who may be the first to hit in a round: how much that counts, and the weights behind it.

    First aims at own, whatever that one's aim is, so that a change is weighed without being made.
    """
    nobody = len(duel.hits)
    parts = []
    # A round has at most four shots and each takes one factor out, so this always divides evenly.
    missed = duel.below ** 4
    for shot in in_turn(group, first):
        to = own if shot == first else duel.aims[(group, shot)]
        hit = 0 if to == nobody else duel.hits[shot]
        each = missed // duel.below
        if each * hit > 0:
            rest = group - (1 << to)
            parts.append((each * hit, known[(rest, next_at_turn(rest, shot))]))
        missed = each * (duel.below - hit)
    return parts


def chances(duel, known, group, first, own):
    """The weights with that set, of two or more, in and first at turn, who aims at own.

    Known has the weights of all smaller sets.
    """
    parts = first_hits(duel, known, group, first, own)
    if len(parts) == 0:
        return surely(duel, len(duel.hits))
    # A round without a hit leads back to where it began, so the rounds with one alone tell the chances.
    return mixed(parts)


def known_chances(duel, top):
    """The weights by (set, shot at turn) of each set up to top; a set's number is above those of its parts."""
    known = {}
    for group in range(1, top + 1):
        inside = members(group)
        for shot in inside:
            if len(inside) == 1:
                known[(group, shot)] = surely(duel, shot)
            else:
                known[(group, shot)] = chances(duel, known, group, shot, duel.aims[(group, shot)])
    return known


def common_divisor(one, other):
    """The greatest whole number that divides both."""
    while other > 0:
        rest = one % other
        one = other
        other = rest
    return one


def lowest_terms(above, below):
    """A chance as it is answered."""
    divisor = common_divisor(above, below)
    return [above // divisor, below // divisor]


def told_chances(duel, group, first):
    """What all and set answer: 0, then each chance in lowest terms."""
    weights = known_chances(duel, group)[(group, first)]
    told = [0]
    for weight in weights:
        told.extend(lowest_terms(weight, sum(weights)))
    return told


def possible_aims(duel, group, shot):
    """At whom a shot may aim with that set in: the others by their numbers, then nobody."""
    return [other for other in members(group) if other != shot] + [len(duel.hits)]


def does_better(shot, weights, before):
    """Whether a shot is left with a greater chance by the weights than by those before."""
    return weights[shot] * sum(before) > before[shot] * sum(weights)


def better_aims(duel, known, group, shot):
    """The aims, in order, that are better for a shot than the one that stands; known has that set's weights too."""
    now = duel.aims[(group, shot)]
    others = [to for to in possible_aims(duel, group, shot) if to != now]
    return [to for to in others if does_better(shot, chances(duel, known, group, shot, to), known[(group, shot)])]


def first_better(duel):
    """The first better change, as a list of the set, the shot and the aim; empty if there is none."""
    known = known_chances(duel, (1 << len(duel.hits)) - 1)
    for group, shot in sorted(duel.aims):
        better = better_aims(duel, known, group, shot)
        if len(better) > 0:
            return [group, shot, better[0]]
    return []


def is_duel(below, hits):
    """Whether such a duel may be."""
    if len(hits) < FEWEST_SHOTS or len(hits) > MOST_SHOTS:
        return False
    if below < 1 or below > MOST_BELOW:
        return False
    return max(hits) <= below


def is_set(duel, group):
    """Whether it is a set of two or more of the duel's shots."""
    return group < 1 << len(duel.hits) and len(members(group)) >= 2


def refusal(duel, group, shot):
    """The refusal of a set and a shot in it, or 0 if they are such."""
    if not is_set(duel, group):
        return -1
    if shot not in members(group):
        return -2
    return 0


def answer_duel(duel, below, hits):
    if not is_duel(below, hits):
        return [-1]
    duel.below = below
    duel.hits = list(hits)
    duel.aims = first_aims(hits)
    return [len(hits)]


def answer_aim(duel, group, shot, to):
    refused = refusal(duel, group, shot)
    if refused < 0:
        return [refused]
    nobody = len(duel.hits)
    if to == shot or (to != nobody and to not in members(group)):
        return [-3]
    before = duel.aims[(group, shot)]
    duel.aims[(group, shot)] = to
    return [before]


def answer_aims(duel, group):
    if not is_set(duel, group):
        return [-1]
    inside = members(group)
    return [len(inside)] + [duel.aims[(group, shot)] for shot in inside]


def answer_all(duel, first):
    shots = len(duel.hits)
    if first >= shots:
        return [-2]
    return told_chances(duel, (1 << shots) - 1, first)


def answer_set(duel, group, first):
    refused = refusal(duel, group, first)
    if refused < 0:
        return [refused]
    return told_chances(duel, group, first)


def answer_best(duel, group, shot):
    refused = refusal(duel, group, shot)
    if refused < 0:
        return [refused]
    known = known_chances(duel, group)
    # Nothing is less for that shot than that it is surely for ever.
    greatest = surely(duel, len(duel.hits))
    best = []
    for to in possible_aims(duel, group, shot):
        weights = chances(duel, known, group, shot, to)
        if does_better(shot, weights, greatest):
            greatest = weights
            best = []
        if not does_better(shot, greatest, weights):
            best.append(to)
    return [len(best)] + best + lowest_terms(greatest[shot], sum(greatest))


def answer_better(duel):
    change = first_better(duel)
    if len(change) == 0:
        return [0]
    return [1] + change


def answer_improve(duel, most):
    if most > MOST_CHANGES:
        return [-1]
    made = 0
    change = first_better(duel)
    while len(change) > 0 and made < most:
        duel.aims[(change[0], change[1])] = change[2]
        made = made + 1
        change = first_better(duel)
    return [made, 1 if len(change) > 0 else 0]


def answer_air(duel):
    nobody = len(duel.hits)
    return [len([to for to in duel.aims.values() if to == nobody])]


def answer_call(duel, call):
    """The answer to one call, which may change the duel."""
    if call[0] == CALL_DUEL:
        return answer_duel(duel, call[1], call[3:])
    if call[0] == CALL_AIM:
        return answer_aim(duel, call[1], call[2], call[3])
    if call[0] == CALL_AIMS:
        return answer_aims(duel, call[1])
    if call[0] == CALL_ALL:
        return answer_all(duel, call[1])
    if call[0] == CALL_SET:
        return answer_set(duel, call[1], call[2])
    if call[0] == CALL_BEST:
        return answer_best(duel, call[1], call[2])
    if call[0] == CALL_BETTER:
        return answer_better(duel)
    if call[0] == CALL_IMPROVE:
        return answer_improve(duel, call[1])
    return answer_air(duel)


def call_length(calls, start):
    """How many numbers the call has that begins there."""
    if calls[start] == CALL_DUEL:
        return 3 + calls[start + 2]
    return 1 + WHOLE_NUMBERS[calls[start]]


def answers(calls):
    """The answers to the calls on one new duel, each with how many numbers it has ahead of it."""
    duel = Duel()
    told = []
    start = 0
    while start < len(calls):
        end = start + call_length(calls, start)
        answer = answer_call(duel, calls[start:end])
        told.append(len(answer))
        told.extend(answer)
        start = end
    return told
