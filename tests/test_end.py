"""The end of a game by both balls of a side being out."""

import unittest

from tests.helper import NOW, PASS, TIME, WIRED, game, hoops, last, more, now, play, stroke, timed, turn


class BothBallsOut(unittest.TestCase):
    def assert_won(self, calls, answer, side):
        behind = [turn(0), turn(1), stroke(), PASS, more(1), WIRED, TIME]
        answered = play(calls + [NOW] + behind + [NOW])
        self.assertEqual(answered[len(calls) - 1:], [answer, [3, side]] + [[-2]] * 7 + [[3, side]])

    def test_one_behind_another(self):
        self.assert_won(game((13, 0, 12, 0)) + [turn(2), stroke(peg=[2])], [3, 26, 0], 0)
        self.assert_won(game((12, 0, 13, 0)) + [turn(0), stroke(peg=[0])], [3, 26, 0], 0)
        self.assert_won(game((5, 13, 0, 12), first=1) + [turn(3), stroke(peg=[3])], [3, 5, 26], 1)
        self.assert_won(game((5, 12, 0, 13), first=1) + [turn(1), stroke(peg=[1])], [3, 5, 26], 1)

    def test_both_by_one_stroke(self):
        self.assert_won(game((12, 0, 12, 0)) + [turn(0), stroke(peg=[0, 2])], [3, 26, 0], 0)
        self.assert_won(game((0, 12, 0, 12), first=1) + [turn(3), stroke(peg=[3, 1])], [3, 0, 26], 1)

    def test_the_other_sides_by_the_strikers_stroke(self):
        self.assert_won(game((12, 12, 0, 12)) + [turn(0), stroke(hit=1, peg=[1, 3])], [3, 12, 26], 1)
        self.assert_won(game((12, 13, 0, 12)) + [turn(0), stroke(hit=2, peg=[3])], [3, 12, 26], 1)
        self.assert_won(game((12, 13, 12, 0), first=1) + [PASS, turn(0), stroke(peg=[0]), turn(3)] + hoops(12)
                        + [stroke(hit=2, peg=[2])], [3, 26, 25], 0)

    def test_both_sides_by_one_stroke(self):
        for striker in range(4):
            calls = game((12, 12, 12, 12), first=striker % 2) + [turn(striker), stroke(peg=[3, 1, 2, 0])]
            self.assert_won(calls, [3, 26, 26], striker % 2)

    def test_both_sides_by_one_stroke_with_one_ball_each_left(self):
        for striker in range(4):
            points = [13, 13, 13, 13]
            points[striker] = 12
            other = (striker + 1) % 4
            points[other] = 12
            calls = game(points, first=striker % 2) + [turn(striker)]
            self.assert_won(calls + [stroke(peg=[other, striker])], [3, 26, 26], striker % 2)
            self.assert_won(calls + [stroke(hit=other, peg=[striker, other])], [3, 26, 26], striker % 2)

    def test_at_once_when_time_is_called(self):
        for time in (1, 2):
            self.assert_won(timed((13, 0, 12, 0), time) + [turn(2), stroke(peg=[2])], [3, 26, 0], 0)
        for time in (1, 2, 3):
            for striker in range(4):
                calls = timed((12, 12, 12, 12), time, striker % 2) + [turn(striker), stroke(peg=[0, 1, 2, 3])]
                self.assert_won(calls, [3, 26, 26], striker % 2)

    def test_one_ball_is_not_the_end(self):
        self.assertEqual(last(game((12, 12, 12, 12)) + [turn(0), stroke(peg=[0, 1])]), [2, 25, 25])
        self.assertEqual(last(game((13, 12, 12, 12)) + [turn(2), stroke()]), [2, 25, 24])

    def test_a_side_goes_on_with_the_ball_that_is_left(self):
        calls = game((13, 0, 0, 0)) + [turn(2), stroke(hoop=1), stroke(), turn(1), stroke(), turn(0), turn(2)]
        self.assertEqual(play(calls)[-6:], [[0, 14, 0], [2, 14, 0], [0], [2, 14, 0], [-4], [0]])

    def test_a_faulty_stroke_does_not_end_it(self):
        self.assertEqual(last(game((13, 0, 12, 0)) + [turn(2), stroke(fault=1, peg=[2])]), [2, 25, 0])

    def test_a_half_turn_does_not_end_it(self):
        calls = game((13, 0, 12, 0), a=5) + [turn(2), stroke(), more(1), stroke(peg=[2])]
        self.assertEqual(last(calls), [2, 25, 0])

    def test_more_points_alone_do_not_end_it(self):
        self.assertEqual(play(game((12, 0, 12, 0)) + [turn(0), stroke(), PASS])[-2:], [[2, 24, 0], [2]])
        self.assertEqual(play(game((5, 0, 0, 0)) + [PASS] * 6)[-6:], [[2]] * 6)
        self.assertEqual(now(game((5, 0, 0, 0)) + [PASS] * 6), [2, 0, 0, 0])


if __name__ == "__main__":
    unittest.main()
