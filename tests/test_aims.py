"""aim and aims: the aims as at first, changed aims, and each refusal."""

import unittest

from asking import GREATEST, THREE, aim, aims, all_aims, ask, duel, inside, last, sets_of

FOUR = (10, 1, 2, 3, 4)


class AsAtFirst(unittest.TestCase):
    def expect(self, told_duel, expected):
        shots = len(told_duel) - 1
        told = ask(duel(*told_duel), *all_aims(shots))[1:]
        self.assertEqual(dict(zip(sets_of(shots), told)), expected)

    def test_two(self):
        self.expect((5, 0, 3), {3: [2, 1, 0]})

    def test_three(self):
        self.expect(THREE, {3: [2, 1, 0], 5: [2, 2, 0], 6: [2, 2, 1], 7: [3, 2, 2, 1]})

    def test_four_in_each_set(self):
        self.expect(FOUR, {
            3: [2, 1, 0], 5: [2, 2, 0], 9: [2, 3, 0], 6: [2, 2, 1], 10: [2, 3, 1], 12: [2, 3, 2],
            7: [3, 2, 2, 1], 11: [3, 3, 3, 1], 13: [3, 3, 3, 2], 14: [3, 3, 3, 2],
            15: [4, 3, 3, 3, 2],
        })

    def test_falling(self):
        self.expect((3, 3, 2, 1), {3: [2, 1, 0], 5: [2, 2, 0], 6: [2, 2, 1], 7: [3, 1, 0, 0]})

    def test_lower_of_as_good_ones(self):
        self.expect((4, 2, 2, 2), {3: [2, 1, 0], 5: [2, 2, 0], 6: [2, 2, 1], 7: [3, 1, 0, 0]})

    def test_lower_of_two_best(self):
        told = ask(duel(9, 1, 8, 3, 8), aims(15), aims(11), aims(13), aims(14))[1:]
        self.assertEqual(told, [[4, 1, 3, 1, 1], [3, 1, 3, 1], [3, 3, 3, 2], [3, 3, 1, 1]])

    def test_also_at_one_who_never_hits(self):
        self.expect((4, 0, 0, 0), {3: [2, 1, 0], 5: [2, 2, 0], 6: [2, 2, 1], 7: [3, 1, 0, 0]})


class Changed(unittest.TestCase):
    def test_answers_the_aim_before(self):
        told = ask(duel(*THREE), aim(7, 0, 1), aim(7, 0, 3), aim(7, 0, 3), aim(7, 0, 2), aim(7, 0, 2), aims(7))[1:]
        self.assertEqual(told, [[2], [1], [3], [3], [2], [3, 2, 2, 1]])

    def test_nobody_is_as_many_as_there_are(self):
        for shots in (2, 3, 4):
            with self.subTest(shots):
                group = (1 << shots) - 1
                told = ask(duel(5, *[2] * shots), aim(group, 0, shots), aim(group, 0, 1), aims(group))[1:]
                self.assertEqual(told, [[1], [shots], [shots, 1] + [0] * (shots - 1)])

    def test_each_aim_is_kept_by_itself(self):
        before = dict(zip(sets_of(4), ask(duel(*FOUR), *all_aims(4))[1:]))
        for group in sets_of(4):
            for place, shot in enumerate(inside(group)):
                for to in [other for other in inside(group) if other != shot] + [4]:
                    with self.subTest(group=group, shot=shot, to=to):
                        told = ask(duel(*FOUR), aim(group, shot, to), *all_aims(4))[1:]
                        expected = {key: list(row) for key, row in before.items()}
                        self.assertEqual(told[0], [expected[group][1 + place]])
                        expected[group][1 + place] = to
                        self.assertEqual(dict(zip(sets_of(4), told[1:])), expected)

    def test_everybody_in_the_air(self):
        told = ask(duel(*THREE), aim(7, 0, 3), aim(7, 1, 3), aim(7, 2, 3), aims(7))
        self.assertEqual(told[-1], [3, 3, 3, 3])


class AimRefused(unittest.TestCase):
    # Each of three shots: the call, the refusal, and why.
    WRONG = [
        (aim(0, 0, 1), -1, "set of none"),
        (aim(1, 0, 1), -1, "set of one"),
        (aim(2, 1, 0), -1, "set of one"),
        (aim(4, 2, 3), -1, "set of one, nobody"),
        (aim(8, 3, 3), -1, "beyond the shots"),
        (aim(9, 0, 3), -1, "beyond the shots"),
        (aim(11, 0, 1), -1, "beyond the shots, some within"),
        (aim(15, 0, 1), -1, "beyond the shots, all within"),
        (aim(16 + 7, 0, 1), -1, "beyond any duel's shots"),
        (aim(GREATEST, 0, 1), -1, "greatest set"),
        (aim(3, 2, 0), -2, "shot of the duel, not in the set"),
        (aim(6, 0, 1), -2, "shot of the duel, not in the set"),
        (aim(7, 3, 0), -2, "nobody is no shot"),
        (aim(7, 4, 0), -2, "no such shot"),
        (aim(7, GREATEST, 0), -2, "greatest shot"),
        (aim(7, 1 << 31, 0), -2, "great shot"),
        (aim(7, 0, 0), -3, "itself"),
        (aim(3, 1, 1), -3, "itself"),
        (aim(3, 0, 2), -3, "not in the set"),
        (aim(6, 1, 0), -3, "not in the set"),
        (aim(7, 0, 4), -3, "above nobody"),
        (aim(3, 0, GREATEST), -3, "greatest"),
        (aim(0, 5, 9), -1, "all three, set of none"),
        (aim(1, 1, 1), -1, "all three, set of one"),
        (aim(8, 0, 0), -1, "all three, beyond"),
        (aim(GREATEST, GREATEST, GREATEST), -1, "all three, greatest"),
        (aim(3, 2, 2), -2, "shot and other"),
        (aim(5, 1, 1), -2, "shot and other"),
        (aim(7, 3, 4), -2, "shot and other"),
        (aim(7, GREATEST, GREATEST), -2, "shot and other, greatest"),
    ]

    def test_each(self):
        for call, refused, why in self.WRONG:
            with self.subTest(why, call=call):
                self.assertEqual(last(duel(*THREE), call), [refused])

    def test_aims_are_as_they_were(self):
        changed = [duel(*THREE), aim(7, 0, 3), aim(6, 2, 3)]
        as_they_were = ask(*changed, *all_aims(3))[len(changed):]
        for call, refused, why in self.WRONG:
            with self.subTest(why, call=call):
                told = ask(*changed, call, *all_aims(3))[len(changed):]
                self.assertEqual(told, [[refused]] + as_they_were)

    def test_by_how_many_shots_there_are(self):
        self.assertEqual(ask(duel(2, 1, 1), aim(3, 0, 2), aim(3, 0, 3), aim(7, 0, 1))[1:], [[1], [-3], [-1]])
        self.assertEqual(ask(duel(2, 1, 1, 1, 1), aim(3, 0, 4), aim(3, 0, 3), aim(15, 0, 3), aim(16, 0, 1),
                             aim(31, 0, 1))[1:], [[1], [-3], [1], [-1], [-1]])


class AimsRefused(unittest.TestCase):
    def test_each(self):
        for group in (0, 1, 2, 4, 8, 9, 15, 16, 23, GREATEST, 1 << 31):
            with self.subTest(group):
                self.assertEqual(ask(duel(*THREE), aims(group), *all_aims(3))[1:],
                                 [[-1], [2, 1, 0], [2, 2, 0], [2, 2, 1], [3, 2, 2, 1]])

    def test_of_four_shots(self):
        for group in (0, 1, 2, 4, 8, 16, 17, 31, GREATEST):
            with self.subTest(group):
                self.assertEqual(last(duel(*FOUR), aims(group)), [-1])


if __name__ == "__main__":
    unittest.main()
