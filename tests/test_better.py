"""better, improve and air: the first better change, such changes made one behind another, and aims at nobody."""

import random
import time
import unittest
from fractions import Fraction

from asking import (
    GREATEST, THREE, aim, aims, aims_as_at_first, air, all_aims, ask, best, better, by_equations, chances_of_all,
    chances_of_set, drawn, duel, improve, inside, last, possible_aims, sets_of,
)

# Better changes of the set 7 lead round and round: 0 and 1 in turn spare the others and aim again.
ROUND = [duel(4, 1, 2, 2), aim(7, 2, 0)]
ROUND_STEPS = [[1, 7, 0, 3], [1, 7, 1, 3], [1, 7, 0, 1], [1, 7, 1, 2]]

# The same with four and large numbers, behind changes in several sets.
LARGE_ROUND = [duel(60, 12, 55, 39, 27), aim(7, 2, 4), aim(9, 0, 4), aim(11, 3, 0)]


def every_state(shots):
    return [(group, shot) for group in sets_of(shots) for shot in inside(group)]


def all_in_the_air(shots):
    return [aim(group, shot, shots) for group, shot in every_state(shots)]


def first_by_equations(below, hits, told_aims):
    """What better answers, from the equations with each change in order."""
    for group, shot in every_state(len(hits)):
        before = by_equations(below, hits, told_aims, group, shot)[shot]
        for to in possible_aims(group, shot, len(hits)):
            if by_equations(below, hits, {**told_aims, (group, shot): to}, group, shot)[shot] > before:
                return [1, group, shot, to]
    return [0]


def one_by_one(below, hits, told_aims, most):
    """The aims behind so many better changes at most, and how many there were."""
    told_aims = dict(told_aims)
    for made in range(most):
        found = first_by_equations(below, hits, told_aims)
        if found == [0]:
            return told_aims, made
        told_aims[(found[1], found[2])] = found[3]
    return told_aims, most


def as_answered(told_aims, shots):
    """What aims answers for every set."""
    return [[len(inside(group))] + [told_aims[(group, shot)] for shot in inside(group)] for group in sets_of(shots)]


def chance_of(answer, shot):
    return Fraction(*answer[1 + 2 * shot:3 + 2 * shot])


class Better(unittest.TestCase):
    def test_none(self):
        self.assertEqual(last(better()), [0])
        self.assertEqual(last(duel(2, 1, 1), better()), [0])
        self.assertEqual(last(duel(*THREE), aim(7, 0, 3), better()), [0])

    def test_nobody_is_the_better_aim(self):
        self.assertEqual(last(duel(*THREE), better()), [1, 7, 0, 3])

    def test_nobody_by_how_many_shots_there_are(self):
        # In the sets up to 7 it is as if they were three.
        self.assertEqual(last(duel(3, 1, 2, 3, 0), better()), [1, 7, 0, 4])

    def test_the_only_one(self):
        self.assertEqual(last(duel(*THREE), aim(7, 0, 3), aim(6, 2, 3), better()), [1, 6, 2, 1])
        self.assertEqual(last(duel(*THREE), aim(7, 0, 3), aim(7, 1, 3), better()), [1, 7, 1, 2])
        self.assertEqual(last(duel(5, 3, 2), aim(3, 1, 2), better()), [1, 3, 1, 0])

    def test_the_first_by_the_set(self):
        # The chance of 0 goes from 0 to 10 in 91 in the set 3; that of 1 from 0 to 18 in 19 in the set 6.
        calls = [duel(10, 1, 9, 5), aim(6, 1, 3), aim(3, 0, 3)]
        told = ask(*calls, better(), aim(3, 0, 1), chances_of_set(3, 0), aim(6, 1, 2), chances_of_set(6, 1))[3:]
        self.assertEqual(told[0], [1, 3, 0, 1])
        self.assertEqual((chance_of(told[2], 0), chance_of(told[4], 1)), (Fraction(10, 91), Fraction(18, 19)))

    def test_sets_by_their_numbers_and_not_by_how_many_are_in(self):
        told = ask(duel(3, 1, 2, 3, 0), aim(9, 0, 4), better(), aim(7, 0, 4), better())
        self.assertEqual((told[2], told[4]), ([1, 7, 0, 4], [1, 9, 0, 3]))

    def test_then_by_the_shot(self):
        told = ask(duel(*THREE), aim(5, 0, 3), aim(5, 2, 3), better(), aim(5, 0, 2), better())
        self.assertEqual((told[3], told[5]), ([1, 5, 0, 2], [1, 5, 2, 0]))
        # 0 gains by the air, from 51 in 189 to 63 in 189; 1 gains more by aiming at 2, from 0 to 72 in 189.
        calls = [duel(*THREE), aim(7, 1, 3)]
        told = ask(*calls, better(), chances_of_set(7, 0), chances_of_set(7, 1), best(7, 0), best(7, 1))[2:]
        self.assertEqual(told[0], [1, 7, 0, 3])
        self.assertEqual((chance_of(told[1], 0), chance_of(told[2], 1)), (Fraction(51, 189), 0))
        self.assertEqual(told[3:], [[1, 3, 1, 3], [1, 2, 8, 21]])

    def test_then_by_the_aim(self):
        # At 1 is 50 in 189, at 2 is 59 in 189, the air 75 in 189: 2 is the first though the air gains more.
        told = ask(duel(*THREE), aim(7, 0, 1), better(), best(7, 0))[2:]
        self.assertEqual(told, [[1, 7, 0, 2], [1, 3, 25, 63]])

    def test_as_good_is_no_better(self):
        self.assertEqual(last(duel(5, 0, 0, 0), better()), [0])
        self.assertEqual(last(duel(5, 0, 0, 0), *all_in_the_air(3), better()), [0])
        self.assertEqual(last(duel(5, 0, 5), aim(3, 0, 2), better()), [0])
        # Beside two who never hit, 1 may begin with either.
        self.assertEqual(ask(duel(3, 0, 1, 0), better(), aim(7, 1, 2), better())[1:], [[0], [0], [0]])

    def test_for_ever_is_no_chance_to_be_left(self):
        self.assertEqual(last(duel(*THREE), *all_in_the_air(3), better()), [1, 3, 0, 1])
        self.assertEqual(last(duel(3, 0, 2), *all_in_the_air(2), better()), [1, 3, 1, 0])

    def test_changes_nothing(self):
        for calls, shots in (([duel(*THREE)], 3), (ROUND, 3), (LARGE_ROUND, 4), ([], 2)):
            seen = all_aims(shots) + [chances_of_all(0), air()]
            with self.subTest(calls):
                before = ask(*calls, *seen)[len(calls):]
                told = ask(*calls, better(), better(), *seen)[len(calls):]
                self.assertEqual(told[0], told[1])
                self.assertEqual(told[2:], before)

    def test_by_equations(self):
        source = random.Random(21)
        for number in range(60):
            shots = 2 + number % 3
            below, hits, told_aims, calls = drawn(source, shots)
            with self.subTest(calls=calls):
                self.assertEqual(last(*calls, better()), first_by_equations(below, hits, told_aims))

    def test_by_equations_in_the_larger_sets(self):
        # With two in, none is better than at one another; so the first better change lies among these.
        source = random.Random(25)
        for number in range(40):
            below = source.choice((2, 3, 5, 60))
            hits = [source.randint(0, below) for shot in range(3 + number % 2)]
            told_aims = aims_as_at_first(hits)
            calls = [duel(below, *hits)]
            larger = [state for state in every_state(len(hits)) if len(inside(state[0])) > 2]
            for group, shot in source.sample(larger, 3):
                told_aims[(group, shot)] = source.choice(possible_aims(group, shot, len(hits)))
                calls.append(aim(group, shot, told_aims[(group, shot)]))
            with self.subTest(calls=calls):
                self.assertEqual(last(*calls, better()), first_by_equations(below, hits, told_aims))

    def test_by_equations_from_the_aims_as_at_first(self):
        source = random.Random(22)
        for number in range(30):
            below = source.randint(1, 60)
            hits = [source.randint(0, below) for shot in range(2 + number % 3)]
            with self.subTest(below=below, hits=hits):
                self.assertEqual(last(duel(below, *hits), better()),
                                 first_by_equations(below, hits, aims_as_at_first(hits)))


class Improve(unittest.TestCase):
    def test_none_at_most(self):
        self.assertEqual(ask(duel(*THREE), improve(0), aims(7)), [[3], [0, 1], [3, 2, 2, 1]])
        self.assertEqual(ask(duel(2, 1, 1), improve(0), aims(3)), [[2], [0, 0], [2, 1, 0]])

    def test_fewer_where_none_is_left(self):
        for most in (1, 2, 3, 29, 30):
            with self.subTest(most):
                self.assertEqual(ask(duel(*THREE), improve(most), aims(7), better(), improve(most)),
                                 [[3], [1, 0], [3, 3, 2, 1], [0], [0, 0]])

    def test_no_better_one_at_all(self):
        for most in (0, 1, 30):
            self.assertEqual(ask(improve(most), aims(3)), [[0, 0], [2, 1, 0]])

    def test_one_still_behind_the_changes(self):
        told = ask(duel(*THREE), *all_in_the_air(3), improve(1), *all_aims(3), improve(2), *all_aims(3))[10:]
        self.assertEqual(told[:5], [[1, 1], [2, 1, 3], [2, 3, 3], [2, 3, 3], [3, 3, 3, 3]])
        self.assertEqual(told[5:], [[2, 1], [2, 1, 0], [2, 2, 3], [2, 3, 3], [3, 3, 3, 3]])

    def test_as_many_as_asked_and_none_left(self):
        calls = [duel(5, 3, 2), *all_in_the_air(2)]
        self.assertEqual(last(*calls, improve(1)), [1, 1])
        self.assertEqual(ask(*calls, improve(2), aims(3))[3:], [[2, 0], [2, 1, 0]])
        self.assertEqual(ask(*calls, improve(3), aims(3))[3:], [[2, 0], [2, 1, 0]])

    def test_the_first_better_one_and_not_the_best(self):
        told = ask(duel(*THREE), aim(7, 0, 1), improve(1), aims(7), improve(1), aims(7))[2:]
        self.assertEqual(told, [[1, 1], [3, 2, 2, 1], [1, 0], [3, 3, 2, 1]])

    def test_round_and_round(self):
        calls = list(ROUND)
        for step in range(9):
            with self.subTest(step):
                self.assertEqual(last(*calls, better()), ROUND_STEPS[step % 4])
                calls.append(aim(*ROUND_STEPS[step % 4][1:]))
        # 30 are seven times round, and two.
        told = ask(*ROUND, improve(30), aims(7), improve(2), aims(7), improve(30), improve(30), aims(7))[2:]
        self.assertEqual(told, [[30, 1], [3, 3, 3, 0], [2, 1], [3, 1, 2, 0], [30, 1], [30, 1], [3, 1, 2, 0]])

    def test_thirty_is_the_most(self):
        for calls, shots in (([duel(*THREE), aim(6, 2, 3)], 3), (ROUND, 3), ([], 2)):
            before = ask(*calls, *all_aims(shots), better())[len(calls):]
            for most in (31, 32, 60, 1 << 31, GREATEST):
                with self.subTest(calls=calls, most=most):
                    told = ask(*calls, improve(most), *all_aims(shots), better())[len(calls):]
                    self.assertEqual(told, [[-1]] + before)

    def test_one_by_one_by_aim(self):
        source = random.Random(23)
        drawn_calls = [(drawn(source, 2 + number % 3)[3], 2 + number % 3) for number in range(45)]
        for calls, shots in drawn_calls + [(ROUND, 3), (LARGE_ROUND, 4)]:
            some, more = source.choice(((0, 1), (1, 1), (2, 3), (4, 0), (3, 4)))
            with self.subTest(calls=calls, some=some, more=more):
                steps = list(calls)
                while last(*steps, better()) != [0] and len(steps) - len(calls) < some + more:
                    steps.append(aim(*last(*steps, better())[1:]))
                made = len(steps) - len(calls)
                still = last(*steps, better())[0]
                told = ask(*calls, improve(some), improve(more), *all_aims(shots))[len(calls):]
                self.assertEqual(told[0][0] + told[1][0], made)
                self.assertEqual(told[1][1], still)
                self.assertEqual(told[2:], ask(*steps, *all_aims(shots))[len(steps):])
                self.assertEqual(ask(*calls, improve(some + more), *all_aims(shots))[len(calls):],
                                 [[made, still]] + told[2:])

    def test_by_equations(self):
        source = random.Random(24)
        for number in range(12):
            shots = 2 + number % 3
            below, hits, told_aims, calls = drawn(source, shots)
            most = source.choice((1, 3, 6))
            with self.subTest(calls=calls, most=most):
                expected, made = one_by_one(below, hits, told_aims, most)
                still = first_by_equations(below, hits, expected)[0]
                told = ask(*calls, improve(most), *all_aims(shots))[len(calls):]
                self.assertEqual(told, [[made, still]] + as_answered(expected, shots))

    def test_to_the_end_by_equations(self):
        hits = [59, 53, 47, 43]
        expected, made = one_by_one(60, hits, aims_as_at_first(hits), 30)
        self.assertGreater(made, 10)
        self.assertLess(made, 30)
        self.assertEqual(ask(duel(60, *hits), improve(30), *all_aims(4))[1:], [[made, 0]] + as_answered(expected, 4))


class Air(unittest.TestCase):
    def test_at_first(self):
        self.assertEqual(last(air()), [0])
        self.assertEqual(ask(duel(2, 1, 2), air(), duel(*THREE), air(), duel(9, 0, 3, 9, 6), air())[1::2], [[0]] * 3)

    def test_set_and_taken_back(self):
        told = ask(duel(*THREE), aim(7, 0, 3), air(), aim(3, 1, 3), air(), aim(3, 1, 3), air(), aim(7, 0, 2), air(),
                   aim(3, 1, 0), air())
        self.assertEqual(told[2::2], [[1], [2], [2], [1], [0]])

    def test_over_all_sets_and_shots(self):
        # With two 2 aims, with three 3 * 2 + 3, with four 6 * 2 + 4 * 3 + 4.
        for shots, number in ((2, 2), (3, 9), (4, 28)):
            told = ask(duel(5, *[2] * shots), *all_in_the_air(shots), air())
            self.assertEqual(told[-1], [number])

    def test_each_counts_once(self):
        for shots in (2, 3, 4):
            for group, shot in every_state(shots):
                with self.subTest(shots=shots, group=group, shot=shot):
                    told = ask(duel(5, *[2] * shots), aim(group, shot, shots), air(), aim(group, shot, shots), air())
                    self.assertEqual(told[2::2], [[1], [1]])

    def test_at_the_last_shot_is_not_at_nobody(self):
        self.assertEqual(last(duel(5, 1, 2, 3, 4), aim(15, 0, 3), aim(9, 0, 3), air()), [0])

    def test_behind_improve(self):
        self.assertEqual(ask(duel(*THREE), improve(0), air(), improve(30), air())[2::2], [[0], [1]])
        # The other way about: the air is left again.
        self.assertEqual(ask(duel(5, 3, 2), *all_in_the_air(2), air(), improve(1), air(), improve(1), air())[3::2],
                         [[2], [1], [0]])
        self.assertEqual(ask(*ROUND, *[call for step in range(5) for call in (improve(1), air())])[3::2],
                         [[1], [2], [1], [0], [1]])

    def test_behind_a_refused_aim_and_a_refused_improve(self):
        told = ask(duel(*THREE), aim(7, 0, 3), aim(7, 1, 4), aim(8, 0, 3), aim(3, 2, 3), improve(31), air())
        self.assertEqual(told[2:], [[-3], [-1], [-2], [-1], [1]])

    def test_behind_a_new_duel(self):
        told = ask(duel(*THREE), improve(30), air(), duel(*THREE), air(), aim(7, 1, 3), air(), duel(2, 1, 1), air())
        self.assertEqual(told[2::2], [[1], [0], [1], [0]])


class Duels(unittest.TestCase):
    def test_the_duel_of_the_beginning(self):
        told = ask(best(3, 0), best(3, 1), best(3, 2), best(7, 0), better(), improve(30), air(), aim(3, 0, 2), air(),
                   better(), best(3, 0), improve(30), air())
        self.assertEqual(told, [[1, 1, 1, 1], [1, 0, 1, 1], [-2], [-1], [0], [0, 0], [0], [1], [1],
                                [1, 3, 0, 1], [1, 1, 1, 1], [1, 0], [0]])

    def test_behind_a_refused_duel(self):
        asked = [best(7, 0), best(3, 2), better(), improve(0), air(), improve(31), improve(30), *all_aims(3), air()]
        calls = [duel(*THREE), aim(6, 2, 3)]
        expected = ask(*calls, *asked)[2:]
        self.assertEqual(expected[2:7], [[1, 6, 2, 1], [0, 1], [1], [-1], [2, 0]])
        for refused in (duel(0, 1, 1), duel(61, 1, 2, 3), duel(3, 1), duel(3, 1, 2, 4), duel(3, 1, 1, 1, 1, 1)):
            with self.subTest(refused):
                self.assertEqual(ask(*calls, refused, *asked)[2:], [[-1]] + expected)

    def test_behind_a_refused_duel_at_the_beginning(self):
        self.assertEqual(ask(duel(3, 1, 2, 4), best(3, 0), best(5, 0), better(), improve(1), air()),
                         [[-1], [1, 1, 1, 1], [-1], [0], [0, 0], [0]])

    def test_behind_one_that_is_not_refused(self):
        told = ask(*LARGE_ROUND, improve(30), duel(*THREE), best(7, 0), best(15, 0), better(), air(), improve(2), air())
        self.assertEqual(told[len(LARGE_ROUND) + 2:], [[1, 3, 25, 63], [-1], [1, 7, 0, 3], [0], [1, 0], [1]])


class LargeNumbers(unittest.TestCase):
    def test_forty_calls_in_time(self):
        begun = time.process_time()
        told = ask(*LARGE_ROUND, *[improve(30)] * 36)
        self.assertEqual(told[4:], [[30, 1]] * 36)
        hits = [59, 53, 47, 43]
        calls = [duel(60, *hits)]
        for number in range(13):
            calls += [best(15, number % 4), better(), improve(30)]
        told = ask(*calls)
        self.assertEqual((told[2], told[5]), ([1, 7, 1, 4], [0]))
        self.assertGreater(told[1][-1], GREATEST)
        # Some hundred times what it takes.
        self.assertLess(time.process_time() - begun, 60)

    def test_best_with_large_numbers(self):
        hits = [59, 53, 47, 43]
        told_aims = aims_as_at_first(hits)
        for shot in range(4):
            found = [by_equations(60, hits, {**told_aims, (15, shot): to}, 15, shot)[shot]
                     for to in possible_aims(15, shot, 4)]
            told = last(duel(60, *hits), best(15, shot))
            self.assertEqual(told[-2:], [max(found).numerator, max(found).denominator])
            self.assertEqual(told[0], found.count(max(found)))


if __name__ == "__main__":
    unittest.main()
