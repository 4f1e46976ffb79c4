"""duel: what is taken, what is refused, and what becomes of the duel and its aims."""

import unittest

from asking import GREATEST, THREE, aim, aims, all_aims, ask, chances_of_all, chances_of_set, duel, last


class Beginning(unittest.TestCase):
    def test_two_shots_who_always_hit(self):
        self.assertEqual(ask(aims(3), chances_of_all(0), chances_of_all(1), chances_of_all(2)),
                         [[2, 1, 0], [0, 1, 1, 0, 1, 0, 1], [0, 0, 1, 1, 1, 0, 1], [-2]])

    def test_no_third_shot(self):
        self.assertEqual(ask(aims(4), aims(5), aims(7), aim(3, 2, 0)), [[-1], [-1], [-1], [-2]])

    def test_once_in_one_and_not_once_in_more(self):
        self.assertEqual(ask(aim(3, 0, 2), chances_of_all(0), chances_of_set(3, 0)),
                         [[1], [0, 0, 1, 1, 1, 0, 1], [0, 0, 1, 1, 1, 0, 1]])


class Taken(unittest.TestCase):
    def test_answers_how_many_there_are(self):
        self.assertEqual(ask(duel(3, 1, 2), duel(*THREE), duel(10, 1, 2, 3, 4)), [[2], [3], [4]])

    def test_edges_of_b(self):
        self.assertEqual(ask(duel(1, 0, 1), duel(60, 0, 60), duel(60, 60, 60, 60, 60)), [[2], [2], [4]])

    def test_a_at_nought_and_at_b(self):
        self.assertEqual(ask(duel(7, 0, 0), duel(7, 7, 7, 7), duel(7, 0, 7, 0, 7)), [[2], [3], [4]])

    def test_brings_back_the_aims_as_at_first(self):
        told = ask(duel(*THREE), aim(7, 0, 3), aim(6, 1, 3), duel(*THREE), *all_aims(3))
        self.assertEqual(told[4:], [[2, 1, 0], [2, 2, 0], [2, 2, 1], [3, 2, 2, 1]])

    def test_takes_the_place_of_the_duel_before(self):
        told = ask(duel(10, 1, 2, 3, 4), duel(2, 1, 2), aims(3), aims(7), chances_of_all(0), chances_of_all(2))
        self.assertEqual(told[2:], [[2, 1, 0], [-1], [0, 1, 2, 1, 2, 0, 1], [-2]])

    def test_from_few_to_many(self):
        told = ask(duel(2, 1, 2), duel(4, 1, 2, 3, 4), aims(15))
        self.assertEqual(told, [[2], [4], [4, 3, 3, 3, 2]])


class Refused(unittest.TestCase):
    WRONG = [
        ("none", duel(3)),
        ("one", duel(3, 1)),
        ("five", duel(3, 1, 1, 1, 1, 1)),
        ("forty", duel(3, *[1] * 40)),
        ("b is 0", duel(0, 0, 0)),
        ("b is 61", duel(61, 1, 2)),
        ("b is the greatest", duel(GREATEST, 1, 2)),
        ("the first above b", duel(3, 4, 1, 1)),
        ("a middle one above b", duel(3, 1, 4, 1)),
        ("the last above b", duel(3, 1, 1, 4)),
        ("above b of 60", duel(60, 61, 60)),
        ("a is the greatest", duel(60, 1, GREATEST)),
        ("all at once", duel(61, *[GREATEST] * 40)),
    ]

    def test_each_wrong_duel(self):
        for name, call in self.WRONG:
            with self.subTest(name):
                self.assertEqual(last(call), [-1])

    def test_leaves_the_duel_and_its_aims(self):
        before = [duel(*THREE), aim(7, 0, 3), aim(3, 1, 3)]
        seen = all_aims(3) + [chances_of_all(shot) for shot in range(4)] + [chances_of_set(3, 0)]
        as_it_was = ask(*before, *seen)[len(before):]
        for name, call in self.WRONG:
            with self.subTest(name):
                self.assertEqual(ask(*before, call, *seen)[len(before) + 1:], as_it_was)

    def test_leaves_the_duel_of_the_beginning(self):
        for name, call in self.WRONG:
            with self.subTest(name):
                self.assertEqual(ask(call, aims(3), aims(7), chances_of_all(0)),
                                 [[-1], [2, 1, 0], [-1], [0, 1, 1, 0, 1, 0, 1]])


if __name__ == "__main__":
    unittest.main()
