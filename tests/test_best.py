"""best: which aims give a shot the greatest chance, and that chance."""

import math
import random
import unittest
from fractions import Fraction

from asking import (
    GREATEST, THREE, aim, aims, all_aims, ask, best, by_equations, chances_of_all, chances_of_set, drawn, duel, inside,
    last, possible_aims, sets_of,
)

# Four who always hit: at first each hits the lowest other, and shot 0 is out whatever that one does.
FOUR_SURE = duel(1, 1, 1, 1, 1)


def best_by_equations(below, hits, told_aims, group, shot):
    """What best answers, from the equations with each aim in turn."""
    found = {}
    for to in possible_aims(group, shot, len(hits)):
        found[to] = by_equations(below, hits, {**told_aims, (group, shot): to}, group, shot)[shot]
    greatest = max(found.values())
    as_good = [to for to in sorted(found) if found[to] == greatest]
    return [len(as_good)] + as_good + [greatest.numerator, greatest.denominator]


class ByHand(unittest.TestCase):
    def test_the_bad_shot_does_best_in_the_air(self):
        told = ask(duel(*THREE), best(7, 0), aim(7, 0, 3), chances_of_all(0))
        self.assertEqual(told[1], [1, 3, 25, 63])
        left = [Fraction(*told[3][place:place + 2]) for place in (1, 3, 5)]
        self.assertEqual(left[0], Fraction(25, 63))
        self.assertGreater(left[0], max(left[1:]))

    def test_the_middling_and_the_sure_one(self):
        # 1 is left if they hit 2, 0 misses, and then with 6/7: 2/3 * 2/3 * 6/7.
        # 2 hits 1 and is left if 0 misses, which is more than if they hit 0 and 1 misses.
        self.assertEqual(ask(duel(*THREE), best(7, 1), best(7, 2))[1:], [[1, 2, 8, 21], [1, 1, 2, 3]])

    def test_one_best_alone(self):
        told = ask(duel(2, 1, 1), best(3, 0), best(3, 1))
        self.assertEqual(told[1:], [[1, 1, 2, 3], [1, 0, 2, 3]])

    def test_the_lowest_a_middle_one_and_the_last(self):
        # Who is at turn behind shot 0 hits another, so shot 0 is at turn again with one alone beside.
        self.assertEqual(last(FOUR_SURE, aim(13, 2, 3), best(15, 0)), [1, 1, 1, 1])
        self.assertEqual(last(FOUR_SURE, aim(11, 1, 3), best(15, 0)), [1, 2, 1, 1])
        self.assertEqual(last(FOUR_SURE, aim(7, 1, 2), best(15, 0)), [1, 3, 1, 1])
        self.assertEqual(last(FOUR_SURE, aim(15, 1, 3), aim(7, 2, 1), best(15, 0)), [1, 4, 1, 1])

    def test_several_as_good_ones_rising(self):
        self.assertEqual(last(FOUR_SURE, aim(11, 1, 3), aim(13, 2, 3), best(15, 0)), [2, 1, 2, 1, 1])
        self.assertEqual(last(FOUR_SURE, aim(7, 1, 2), aim(11, 1, 3), best(15, 0)), [2, 2, 3, 1, 1])
        # Beside two who never hit it doesn't matter who is first.
        self.assertEqual(last(duel(3, 0, 1, 0), best(7, 1)), [2, 0, 2, 1, 1])

    def test_several_with_nobody_last(self):
        air_pays = [aim(15, 1, 3), aim(7, 2, 1)]
        self.assertEqual(last(FOUR_SURE, *air_pays, aim(13, 2, 3), best(15, 0)), [2, 1, 4, 1, 1])
        self.assertEqual(last(FOUR_SURE, *air_pays, aim(13, 2, 3), aim(7, 1, 2), best(15, 0)), [3, 1, 3, 4, 1, 1])
        self.assertEqual(last(FOUR_SURE, *air_pays, aim(13, 2, 3), aim(7, 1, 2), aim(11, 1, 3), best(15, 0)),
                         [4, 1, 2, 3, 4, 1, 1])

    def test_every_aim_as_good_for_one_who_never_hits(self):
        told = ask(duel(7, 0, 3, 5), best(3, 0), best(5, 0), best(7, 0))
        self.assertEqual(told[1:], [[2, 1, 3, 0, 1], [2, 2, 3, 0, 1], [3, 1, 2, 3, 0, 1]])
        self.assertEqual(last(duel(7, 1, 2, 0, 3), best(15, 2)), [4, 0, 1, 3, 4, 0, 1])

    def test_every_aim_as_good_for_one_who_is_hit_anyway(self):
        self.assertEqual(last(FOUR_SURE, best(15, 0)), [4, 1, 2, 3, 4, 0, 1])

    def test_a_chance_of_one(self):
        self.assertEqual(ask(best(3, 0), best(3, 1)), [[1, 1, 1, 1], [1, 0, 1, 1]])
        self.assertEqual(last(duel(60, 30, 60), aim(3, 1, 2), best(3, 0)), [1, 1, 1, 1])

    def test_where_all_others_shoot_in_the_air(self):
        # It is for ever with nobody, which leaves the chance 0 to be left.
        told = ask(duel(9, 2, 4, 6), aim(7, 1, 3), aim(7, 2, 3), aim(7, 0, 3), best(7, 0))
        chance = by_equations(9, [2, 4, 6], {(7, 0): 2, (7, 1): 3, (7, 2): 3, (3, 0): 1, (3, 1): 0}, 7, 0)[0]
        self.assertEqual(told[-1], [1, 2, chance.numerator, chance.denominator])

    def test_lowest_terms_however_the_duel_is_told(self):
        self.assertEqual(last(duel(60, 20, 40, 60), best(7, 0)), [1, 3, 25, 63])
        self.assertEqual(last(duel(60, 30, 30), best(3, 0)), [1, 1, 2, 3])


class AllElseAsItIs(unittest.TestCase):
    def test_the_aim_that_stands_need_not_be_among_the_best(self):
        self.assertEqual(ask(duel(*THREE), aims(7), best(7, 0), aims(7))[1:],
                         [[3, 2, 2, 1], [1, 3, 25, 63], [3, 2, 2, 1]])

    def test_the_same_whatever_that_shots_aim_was(self):
        for to in (1, 2, 3):
            with self.subTest(to):
                self.assertEqual(ask(duel(*THREE), aim(7, 0, to), best(7, 0), aims(7))[2:],
                                 [[1, 3, 25, 63], [3, to, 2, 1]])

    def test_by_the_others_aims_in_that_set(self):
        # 0 always hits, 2 never: while 1 aims at 2, 0 may wait in the air as well.
        told = ask(duel(3, 3, 2, 0), best(7, 0), aim(7, 1, 2), best(7, 0))
        self.assertEqual(told[1:], [[1, 1, 1, 1], [0], [2, 1, 3, 1, 1]])

    def test_by_the_aims_in_smaller_sets(self):
        # The sure one spares 0 when they are alone, so in the air is 2/3 * 3/7 + 1/3, and at 1 is 1/3 + 2/3 of that.
        told = ask(duel(*THREE), aim(5, 2, 3), best(7, 0))
        self.assertEqual(told[2], [1, 1, 47, 63])

    def test_all_aims_are_as_they_were(self):
        source = random.Random(11)
        for shots in (2, 3, 4):
            calls = drawn(source, shots)[3]
            before = ask(*calls, *all_aims(shots))[len(calls):]
            for group in sets_of(shots):
                for shot in inside(group):
                    with self.subTest(calls=calls, group=group, shot=shot):
                        told = ask(*calls, best(group, shot), *all_aims(shots))[len(calls) + 1:]
                        self.assertEqual(told, before)

    def test_as_set_tells_with_each_aim_made(self):
        source = random.Random(12)
        for number in range(60):
            shots = 2 + number % 3
            calls = drawn(source, shots)[3]
            group = source.choice(sets_of(shots))
            shot = source.choice(inside(group))
            choices = possible_aims(group, shot, shots)
            with self.subTest(calls=calls, group=group, shot=shot):
                made = [call for to in choices for call in (aim(group, shot, to), chances_of_set(group, shot))]
                told = ask(*calls, best(group, shot), *made)[len(calls):]
                found = [Fraction(*answer[1 + 2 * shot:3 + 2 * shot]) for answer in told[2::2]]
                as_good = [to for to, chance in zip(choices, found) if chance == max(found)]
                self.assertEqual(told[0], [len(as_good)] + as_good + [max(found).numerator, max(found).denominator])


class ByEquations(unittest.TestCase):
    def test_drawn_duels(self):
        source = random.Random(13)
        for number in range(60):
            shots = 2 + number % 3
            below, hits, told_aims, calls = drawn(source, shots)
            group = source.choice(sets_of(shots))
            shot = source.choice(inside(group))
            with self.subTest(calls=calls, group=group, shot=shot):
                self.assertEqual(last(*calls, best(group, shot)),
                                 best_by_equations(below, hits, told_aims, group, shot))

    def test_every_set_and_shot_in_lowest_terms(self):
        states = [(group, shot) for group in sets_of(4) for shot in inside(group)]
        told = ask(duel(60, 58, 22, 46, 34), *[best(*state) for state in states])[1:]
        for state, answer in zip(states, told):
            with self.subTest(state):
                self.assertEqual(len(answer), 1 + answer[0] + 2)
                self.assertEqual(math.gcd(answer[-2], answer[-1]), 1)


class Refused(unittest.TestCase):
    def setUp(self):
        self.changed = [duel(*THREE), aim(7, 0, 3), aim(6, 2, 3)]
        self.as_they_were = ask(*self.changed, *all_aims(3))[len(self.changed):]

    def expect(self, call, refused):
        with self.subTest(call=call):
            told = ask(*self.changed, call, *all_aims(3))[len(self.changed):]
            self.assertEqual(told, [[refused]] + self.as_they_were)

    def test_no_such_set_or_of_fewer_than_two(self):
        for group, shot in ((0, 0), (1, 0), (2, 1), (4, 2)):
            self.expect(best(group, shot), -1)

    def test_beyond_the_duels_shots(self):
        for group, shot in ((8, 3), (9, 0), (11, 0), (15, 2), (16, 4), (23, 0), (1 << 31, 31), (GREATEST, 0)):
            self.expect(best(group, shot), -1)

    def test_no_such_shot_in_it(self):
        for group, shot in ((3, 2), (5, 1), (6, 0), (7, 3), (7, 4), (3, 1 << 31), (7, GREATEST)):
            self.expect(best(group, shot), -2)

    def test_both_at_a_time(self):
        for group, shot in ((0, 3), (1, 1), (2, 0), (4, 3), (8, 0), (GREATEST, GREATEST), (16, GREATEST)):
            self.expect(best(group, shot), -1)

    def test_by_how_many_shots_there_are(self):
        self.assertEqual(ask(duel(2, 1, 1), best(7, 0), best(4, 2), best(3, 2)), [[2], [-1], [-1], [-2]])
        self.assertEqual(ask(duel(2, 1, 1, 1, 1), best(16, 4), best(31, 0), best(8, 3), best(15, 4), best(7, 3))[1:],
                         [[-1], [-1], [-1], [-2], [-2]])


if __name__ == "__main__":
    unittest.main()
