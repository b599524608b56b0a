"""Point 4: which strokes are refused."""

import unittest

from tests.helper import HIGHEST, LOWEST, begin, game, last, more, over, play, stroke, turn

# Side 0 to begin, with ball 3 out.
ONE_OUT = game((12, 12, 5, 13))


class OutsideTheRange(unittest.TestCase):
    def assert_minus_1(self, **told):
        for calls in ([], over(), [begin()], [begin(), turn(0)]):
            self.assertEqual(last(calls + [stroke(**told)]), [-1])

    def test_hit(self):
        for wrong in (-2, 4, LOWEST, HIGHEST):
            self.assert_minus_1(hit=wrong)

    def test_hoop_and_fault(self):
        for wrong in (-1, 2, LOWEST, HIGHEST):
            self.assert_minus_1(hoop=wrong)
            self.assert_minus_1(fault=wrong)

    def test_a_ball_of_the_lists(self):
        for wrong in (-1, 4, LOWEST, HIGHEST):
            for name in ("ran", "peg", "off"):
                self.assert_minus_1(**{name: [wrong]})
                self.assert_minus_1(**{name: [1, 2, wrong]})
                self.assert_minus_1(**{name: [wrong, 1]})

    def test_ahead_of_what_cannot_have_been(self):
        self.assert_minus_1(hit=0, ran=[1, 1, 4])
        self.assert_minus_1(hit=0, hoop=2)
        self.assert_minus_1(ran=[0], off=[-1], fault=1)

    def test_eight_numbers_that_are_no_balls(self):
        self.assert_minus_1(ran=[9, 8, 7, 6, 5, 4, -1, -2], peg=[4] * 8, off=[HIGHEST] * 8)


class NoGameOrTurn(unittest.TestCase):
    def test_no_game(self):
        self.assertEqual(play([stroke()]), [[-2]])

    def test_a_game_that_is_over(self):
        self.assertEqual(last(over() + [stroke()]), [-2])
        self.assertEqual(last(over() + [stroke(hit=0, ran=[1, 1])]), [-2])

    def test_no_turn_has_begun(self):
        self.assertEqual(last([begin(), stroke()]), [-3])
        self.assertEqual(last([begin(), turn(0), stroke(), stroke()]), [-3])
        self.assertEqual(last([begin(), turn(0), stroke(), stroke(hit=1, ran=[2, 2])]), [-3])


class WhatCannotHaveBeen(unittest.TestCase):
    def assert_minus_4(self, calls, **told):
        for fault in (0, 1):
            self.assertEqual(last(calls + [stroke(fault=fault, **told)]), [-4])

    def test_the_striker_hits_itself(self):
        for ball in range(4):
            self.assert_minus_4([begin(first=ball % 2), turn(ball)], hit=ball)

    def test_a_hit_on_a_ball_that_is_out(self):
        for out in range(4):
            points = [13 if ball == out else 0 for ball in range(4)]
            for striker in [ball for ball in range(4) if ball != out]:
                self.assert_minus_4(game(points, first=striker % 2) + [turn(striker)], hit=out)

    def test_no_hit_at_all_where_ball_3_is_out(self):
        self.assertEqual(last(ONE_OUT + [turn(0), stroke(hit=-1)]), [2, 17, 25])

    def test_a_hoop_of_a_striker_that_has_all_12(self):
        self.assert_minus_4(ONE_OUT + [turn(0)], hoop=1)
        self.assertEqual(last(game((11, 0, 0, 0)) + [turn(0), stroke(hoop=1)]), [0, 12, 0])

    def test_a_hoop_of_a_striker_that_has_all_12_in_a_half_turn(self):
        calls = game((12, 0, 0, 0), a=4) + [turn(0), stroke(), more(1)]
        self.assert_minus_4(calls, hoop=1)

    def test_a_ball_twice_in_a_list(self):
        for name in ("ran", "peg", "off"):
            self.assert_minus_4([begin(), turn(0)], **{name: [1, 1]})
            self.assert_minus_4([begin(), turn(0)], **{name: [2, 1, 3, 2]})
            self.assert_minus_4([begin(), turn(0)], **{name: [1, 2, 3, 1, 2, 3, 1, 2]})

    def test_a_ball_that_is_out_in_a_list(self):
        for name in ("ran", "peg", "off"):
            self.assert_minus_4(ONE_OUT + [turn(0)], **{name: [3]})
            self.assert_minus_4(ONE_OUT + [turn(0)], **{name: [1, 3, 2]})

    def test_the_striker_in_ran(self):
        for ball in range(4):
            calls = [begin(first=ball % 2), turn(ball)]
            self.assert_minus_4(calls, ran=[ball])
            self.assert_minus_4(calls, ran=[(ball + 1) % 4, ball])

    def test_in_a_half_turn_too(self):
        calls = [begin(0, 0, 4), turn(0), stroke(), more(1)]
        self.assert_minus_4(calls, hit=0)
        self.assert_minus_4(calls, ran=[0])
        self.assert_minus_4(calls, off=[1, 1])

    def test_nothing_changes_by_one(self):
        wrong = [stroke(hit=4), stroke(hit=0), stroke(hoop=1, ran=[0]), stroke(fault=1, off=[2, 2]), stroke(ran=[1, 1])]
        calls = [begin(), turn(0), stroke(hit=1)] + wrong + [stroke(hit=2)] + wrong + [stroke(hoop=1)]
        refusals = [[-1], [-4], [-4], [-4], [-4]]
        self.assertEqual(play(calls)[2:], [[1, 0, 0]] + refusals + [[1, 0, 0]] + refusals + [[0, 1, 0]])


class WhatMayHaveBeen(unittest.TestCase):
    def test_the_striker_in_peg_and_off(self):
        self.assertEqual(last([begin(), turn(0), stroke(hoop=1, peg=[0], off=[0])]), [0, 1, 0])

    def test_one_ball_in_every_list_and_hit(self):
        self.assertEqual(last([begin(), turn(0), stroke(hit=1, ran=[1], peg=[1], off=[1])]), [1, 0, 1])

    def test_all_balls_in_the_lists(self):
        told = stroke(ran=[3, 1, 2], peg=[3, 0, 2, 1], off=[2, 3, 0, 1])
        self.assertEqual(last([begin(), turn(0), told]), [2, 1, 2])

    def test_ran_of_a_ball_that_has_all_12(self):
        self.assertEqual(last(game((0, 12, 0, 0)) + [turn(0), stroke(ran=[1])]), [2, 0, 12])

    def test_a_hit_on_a_ball_that_is_not_live_any_more(self):
        self.assertEqual(last([begin(), turn(0), stroke(hit=1), stroke(hit=1)]), [0, 0, 0])


if __name__ == "__main__":
    unittest.main()
