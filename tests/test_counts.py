"""What a stroke counts."""

import unittest

from tests.helper import begin, game, hoops, last, more, play, stroke, turn


class Faulty(unittest.TestCase):
    def test_counts_nothing(self):
        calls = game((11, 12, 3, 4)) + [turn(0)]
        self.assertEqual(last(calls + [stroke(hit=1, hoop=1, fault=1, ran=[2, 3], peg=[0, 1])]), [2, 14, 16])
        self.assertEqual(last(calls + [stroke(fault=1, ran=[2, 3])]), [2, 14, 16])

    def test_counts_no_peg(self):
        calls = game((12, 12, 3, 4)) + [turn(0), stroke(fault=1, peg=[0, 1])]
        self.assertEqual(last(calls), [2, 15, 16])

    def test_what_was_counted_before_stays(self):
        self.assertEqual(last([begin(), turn(0)] + hoops(2) + [stroke(hoop=1, fault=1)]), [2, 2, 0])


class HalfTurn(unittest.TestCase):
    def setUp(self):
        self.calls = game((11, 12, 3, 4), a=5) + [turn(0), stroke(), more(1)]

    def test_no_hoop_of_the_striker(self):
        self.assertEqual(last(self.calls + [stroke(hit=1, hoop=1)]), [1, 14, 16])

    def test_no_hoop_of_others(self):
        self.assertEqual(last(self.calls + [stroke(hit=1, ran=[2, 3])]), [1, 14, 16])

    def test_no_peg_of_any_ball(self):
        calls = game((12, 12, 3, 4), a=5) + [turn(0), stroke(), more(1)]
        self.assertEqual(last(calls + [stroke(hit=1, peg=[0, 1])]), [1, 15, 16])

    def test_a_whole_turn_more_counts(self):
        calls = game((11, 12, 3, 4), a=5) + [turn(0), stroke(), more(0)]
        self.assertEqual(last(calls + [stroke(hoop=1, ran=[2, 3], peg=[1])]), [0, 16, 18])


class Hoops(unittest.TestCase):
    def test_the_strikers_hoop(self):
        for ball in range(4):
            wanted = [0, 1, 0] if ball % 2 == 0 else [0, 0, 1]
            self.assertEqual(last([begin(first=ball % 2), turn(ball), stroke(hoop=1)]), wanted)

    def test_no_hoop_no_point(self):
        self.assertEqual(last([begin(), turn(0), stroke(hit=1)]), [1, 0, 0])

    def test_twelve_hoops_one_after_the_other(self):
        answered = play([begin(), turn(2)] + hoops(13))
        self.assertEqual(answered[2:14], [[0, number, 0] for number in range(1, 13)])
        self.assertEqual(answered[14], [-4])

    def test_hoops_of_balls_told_in_ran(self):
        for ran, wanted in (([1], [2, 0, 1]), ([2], [2, 1, 0]), ([3, 1], [2, 0, 2]), ([3, 2, 1], [2, 1, 2])):
            self.assertEqual(last([begin(), turn(0), stroke(ran=ran)]), wanted)

    def test_each_with_the_strikers_own(self):
        self.assertEqual(last([begin(first=1), turn(3), stroke(hoop=1, ran=[0, 1, 2])]), [0, 2, 2])

    def test_the_twelfth_counts_and_no_other_behind_it(self):
        self.assertEqual(last(game((0, 11, 0, 12)) + [turn(0), stroke(ran=[1])]), [2, 0, 24])
        self.assertEqual(last(game((0, 12, 0, 11)) + [turn(0), stroke(ran=[1, 3])]), [2, 0, 24])
        self.assertEqual(last(game((0, 12, 12, 12)) + [turn(0), stroke(ran=[1, 2, 3])]), [2, 12, 24])

    def test_points_are_the_balls_own(self):
        # Ball 2 has all 12, so a hoop of its own can't have been; ball 0 still runs its first.
        calls = game((0, 0, 12, 0))
        self.assertEqual(last(calls + [turn(2), stroke(hoop=1)]), [-4])
        self.assertEqual(last(calls + [turn(0), stroke(hoop=1)]), [0, 13, 0])


class Peg(unittest.TestCase):
    def test_the_strikers_ball_with_all_12(self):
        for ball in range(4):
            points = [12 if other == ball else 0 for other in range(4)]
            wanted = [2, 13, 0] if ball % 2 == 0 else [2, 0, 13]
            self.assertEqual(last(game(points, first=ball % 2) + [turn(ball), stroke(peg=[ball])]), wanted)

    def test_the_strikers_ball_with_11(self):
        self.assertEqual(last(game((11, 0, 0, 0)) + [turn(0), stroke(peg=[0])]), [2, 11, 0])

    def test_the_strikers_twelfth_hoop_and_the_peg_by_one_stroke(self):
        self.assertEqual(last(game((11, 0, 0, 0)) + [turn(0), stroke(hoop=1, peg=[0])]), [2, 13, 0])

    def test_the_eleventh_hoop_and_the_peg(self):
        self.assertEqual(last(game((10, 0, 0, 0)) + [turn(0), stroke(hoop=1, peg=[0])]), [0, 11, 0])

    def test_others_with_12_if_the_striker_has_all_12(self):
        calls = game((12, 12, 12, 12)) + [turn(0)]
        self.assertEqual(last(calls + [stroke(hit=1, peg=[1])]), [0, 24, 25])
        self.assertEqual(last(calls + [stroke(hit=1, peg=[3])]), [1, 24, 25])
        self.assertEqual(last(calls + [stroke(hit=1, peg=[2, 3])]), [1, 25, 25])

    def test_others_with_12_if_the_striker_has_11(self):
        calls = game((11, 12, 12, 12)) + [turn(0)]
        self.assertEqual(last(calls + [stroke(hit=1, peg=[1, 2, 3])]), [1, 23, 24])

    def test_others_with_12_if_the_striker_comes_to_12(self):
        calls = game((11, 12, 12, 0)) + [turn(0)]
        self.assertEqual(last(calls + [stroke(hoop=1, peg=[1, 2])]), [0, 25, 13])

    def test_others_with_11(self):
        calls = game((12, 11, 11, 11)) + [turn(0)]
        self.assertEqual(last(calls + [stroke(hit=1, peg=[1, 2, 3])]), [1, 23, 22])

    def test_another_ball_comes_to_12_and_makes_the_peg_by_one_stroke(self):
        calls = game((12, 11, 0, 10)) + [turn(0)]
        self.assertEqual(last(calls + [stroke(hit=2, ran=[1, 3], peg=[1, 3])]), [1, 12, 24])

    def test_others_count_beside_the_striker_in_any_order(self):
        for peg in ([0, 1], [1, 0]):
            self.assertEqual(last(game((12, 12, 0, 0)) + [turn(0), stroke(peg=peg)]), [2, 13, 13])

    def test_all_12_without_the_peg(self):
        self.assertEqual(last(game((12, 12, 0, 0)) + [turn(0), stroke(hit=1)]), [1, 12, 12])


if __name__ == "__main__":
    unittest.main()
