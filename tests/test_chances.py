"""all and set: exact chances, checked by hand and against a second way to work them out."""

import math
import random
import unittest
from fractions import Fraction

from asking import (
    GREATEST, THREE, aim, aims_as_at_first, all_aims, ask, by_equations, chances_of_all, chances_of_set, drawn, duel,
    inside, last, sets_of,
)


def written(chances):
    """Chances as all and set answer them."""
    return [0] + [number for chance in chances for number in (chance.numerator, chance.denominator)]


class ByHand(unittest.TestCase):
    def test_the_bad_shot_does_best_in_the_air(self):
        told = ask(duel(*THREE), chances_of_all(0), aim(7, 0, 3), chances_of_all(0))
        self.assertEqual(told[1], [0, 59, 189, 34, 63, 4, 27, 0, 1])
        self.assertEqual(told[3], [0, 25, 63, 8, 21, 2, 9, 0, 1])

    def test_two_in_turn(self):
        # One half each: the first is left with 1/2 + 1/4 of the same, so 2/3.
        told = ask(duel(2, 1, 1), chances_of_all(0), chances_of_all(1))
        self.assertEqual(told[1:], [[0, 2, 3, 1, 3, 0, 1], [0, 1, 3, 2, 3, 0, 1]])

    def test_each_as_the_one_at_turn_first(self):
        # All always hit and aim at the lowest other; who is out is left out in the turn:
        # 0 hits 1, 2 hits 0, 3 hits 2; 1 hits 0, 2 hits 1, 3 hits 2;
        # 2 hits 0, 3 hits 1, 2 hits 3; 3 hits 0, 1 hits 2, 3 hits 1.
        told = ask(duel(1, 1, 1, 1, 1), *[chances_of_all(first) for first in range(4)])[1:]
        self.assertEqual(told, [
            [0, 0, 1, 0, 1, 0, 1, 1, 1, 0, 1],
            [0, 0, 1, 0, 1, 0, 1, 1, 1, 0, 1],
            [0, 0, 1, 0, 1, 1, 1, 0, 1, 0, 1],
            [0, 0, 1, 0, 1, 0, 1, 1, 1, 0, 1],
        ])

    def test_those_that_are_not_in_have_no_chance(self):
        told = ask(duel(4, 2, 2, 2, 2), chances_of_set(10, 1), chances_of_set(10, 3), chances_of_set(5, 2))[1:]
        self.assertEqual(told, [
            [0, 0, 1, 2, 3, 0, 1, 1, 3, 0, 1],
            [0, 0, 1, 1, 3, 0, 1, 2, 3, 0, 1],
            [0, 1, 3, 0, 1, 2, 3, 0, 1, 0, 1],
        ])

    def test_set_of_all_is_all(self):
        for first in range(3):
            told = ask(duel(*THREE), chances_of_all(first), chances_of_set(7, first))
            self.assertEqual(told[1], told[2])

    def test_one_who_never_hits_and_one_who_always_does(self):
        told = ask(duel(9, 0, 9), chances_of_all(0), chances_of_all(1))
        self.assertEqual(told[1:], [[0, 0, 1, 1, 1, 0, 1], [0, 0, 1, 1, 1, 0, 1]])


class ForEver(unittest.TestCase):
    def test_surely_where_all_always_miss(self):
        told = ask(duel(5, 0, 0, 0), chances_of_all(0), chances_of_set(5, 2))[1:]
        self.assertEqual(told, [[0, 0, 1, 0, 1, 0, 1, 1, 1]] * 2)

    def test_surely_where_all_shoot_in_the_air(self):
        told = ask(duel(*THREE), aim(7, 0, 3), aim(7, 1, 3), aim(7, 2, 3), *[chances_of_all(k) for k in range(3)])
        self.assertEqual(told[4:], [[0, 0, 1, 0, 1, 0, 1, 1, 1]] * 3)

    def test_surely_where_some_miss_and_the_others_shoot_in_the_air(self):
        self.assertEqual(last(duel(6, 0, 3), aim(3, 1, 2), chances_of_all(1)), [0, 0, 1, 0, 1, 1, 1])

    def test_in_some_set_alone(self):
        # With 0 and 1 in it is for ever, and with the others never: 2 is hit first with the chance 1 - 2/3 * 1/3.
        told = ask(duel(*THREE), aim(3, 0, 3), aim(3, 1, 3), chances_of_all(0), chances_of_set(3, 0),
                   chances_of_set(6, 1))
        self.assertEqual(told[3], [0, 2, 27, 0, 1, 4, 27, 7, 9])
        self.assertEqual(told[4], [0, 0, 1, 0, 1, 0, 1, 1, 1])
        self.assertEqual(told[5], [0, 0, 1, 2, 3, 1, 3, 0, 1])

    def test_not_while_one_may_hit(self):
        self.assertEqual(last(duel(60, 1, 60), aim(3, 1, 2), chances_of_all(1)), [0, 1, 1, 0, 1, 0, 1])


class ByEquations(unittest.TestCase):
    def test_drawn_duels(self):
        source = random.Random(20)
        for number in range(120):
            shots = 2 + number % 3
            below, hits, told_aims, calls = drawn(source, shots)
            group = source.choice(sets_of(shots))
            shot = source.choice(inside(group))
            first = source.randrange(shots)
            everyone = (1 << shots) - 1
            with self.subTest(below=below, hits=hits, aims=told_aims, group=group, shot=shot, first=first):
                told = ask(*calls, chances_of_all(first), chances_of_set(group, shot))
                self.assertEqual(told[-2], written(by_equations(below, hits, told_aims, everyone, first)))
                self.assertEqual(told[-1], written(by_equations(below, hits, told_aims, group, shot)))

    def test_every_set_and_shot(self):
        below, hits = 12, [5, 11, 2, 7]
        told_aims = aims_as_at_first(hits)
        states = [(group, shot) for group in sets_of(4) for shot in inside(group)]
        told = ask(duel(below, *hits), *[chances_of_set(*state) for state in states])[1:]
        for state, answer in zip(states, told):
            with self.subTest(state):
                self.assertEqual(answer, written(by_equations(below, hits, told_aims, *state)))


class AsFractions(unittest.TestCase):
    def test_lowest_terms_and_one_in_all(self):
        source = random.Random(4)
        for number in range(150):
            shots = 2 + number % 3
            calls = drawn(source, shots)[3]
            with self.subTest(calls=calls):
                told = ask(*calls, chances_of_all(source.randrange(shots)))[-1]
                self.assertEqual(len(told), 1 + 2 * (shots + 1))
                self.assertEqual(told[0], 0)
                total = Fraction(0)
                for above, below in zip(told[1::2], told[2::2]):
                    self.assertGreaterEqual(above, 0)
                    self.assertGreater(below, 0)
                    self.assertEqual(math.gcd(above, below), 1)
                    total += Fraction(above, below)
                self.assertEqual(total, 1)

    def test_large_numbers(self):
        hits = [59, 53, 47, 43]
        told = last(duel(60, *hits), chances_of_all(0))
        self.assertEqual(told, written(by_equations(60, hits, aims_as_at_first(hits), 15, 0)))
        self.assertGreater(max(told), GREATEST * GREATEST)

    def test_small_chances_with_b_60(self):
        hits = [1, 1, 1, 1]
        for first in range(4):
            told = last(duel(60, *hits), chances_of_all(first))
            self.assertEqual(told, written(by_equations(60, hits, aims_as_at_first(hits), 15, first)))


class Refused(unittest.TestCase):
    def setUp(self):
        self.changed = [duel(*THREE), aim(7, 0, 3)]
        self.as_they_were = ask(*self.changed, *all_aims(3))[2:]

    def expect(self, call, refused):
        with self.subTest(call=call):
            self.assertEqual(ask(*self.changed, call, *all_aims(3))[2:], [[refused]] + self.as_they_were)

    def test_all(self):
        for first in (3, 4, 7, 1 << 31, GREATEST):
            self.expect(chances_of_all(first), -2)

    def test_all_by_how_many_shots_there_are(self):
        for shots in (2, 3, 4):
            told = ask(duel(2, *[1] * shots), chances_of_all(shots - 1), chances_of_all(shots))
            self.assertEqual(told[1][0], 0)
            self.assertEqual(told[2], [-2])

    def test_no_such_set(self):
        for group in (0, 1, 2, 4, 8, 9, 15, 16, 23, 1 << 31, GREATEST):
            for first in (0, 1, 2, 3, GREATEST):
                self.expect(chances_of_set(group, first), -1)

    def test_no_such_shot_in_the_set(self):
        for group, first in ((3, 2), (5, 1), (6, 0), (7, 3), (7, 4), (3, 1 << 31), (7, GREATEST)):
            self.expect(chances_of_set(group, first), -2)


if __name__ == "__main__":
    unittest.main()
