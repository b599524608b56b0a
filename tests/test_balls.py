"""The call balls: the points of each ball, and the half turns left of both sides."""

import unittest

from tests.helper import BALLS, NOW, PASS, TIME, WIRED, balls, begin, game, hoops, more, over, play, stroke, turn


class Points(unittest.TestCase):
    def test_of_a_new_game(self):
        self.assertEqual(balls([begin()]), [4, 0, 0, 0, 0, 0, 0])

    def test_of_each_ball_in_its_place(self):
        self.assertEqual(balls(game((1, 2, 3, 4))), [4, 1, 2, 3, 4, 0, 0])
        self.assertEqual(balls(game((12, 0, 5, 9), first=1)), [4, 12, 0, 5, 9, 0, 0])
        self.assertEqual(balls(game((13, 12, 0, 13))), [4, 13, 12, 0, 13, 0, 0])

    def test_within_a_turn(self):
        calls = [begin(), turn(2), stroke(hoop=1), stroke(hit=1, hoop=1, ran=[1, 3])]
        self.assertEqual(balls(calls), [4, 0, 1, 2, 1, 0, 0])
        self.assertEqual(balls(calls + [stroke(ran=[0, 3], fault=1)]), [4, 0, 1, 2, 1, 0, 0])
        self.assertEqual(balls(calls + [stroke(ran=[0, 3])]), [4, 1, 1, 2, 2, 0, 0])

    def test_the_peg(self):
        calls = game((12, 12, 12, 11)) + [turn(0)]
        self.assertEqual(balls(calls + [stroke(hit=3, peg=[1, 2, 3])]), [4, 12, 13, 13, 11, 0, 0])
        self.assertEqual(balls(calls + [stroke(hit=3, ran=[3], peg=[1, 3])]), [4, 12, 13, 12, 13, 0, 0])

    def test_none_of_a_half_turn(self):
        calls = game((12, 12, 3, 4), a=5) + [turn(0), stroke(), more(1), stroke(hit=1, ran=[2, 3], peg=[0, 1])]
        self.assertEqual(balls(calls), [4, 12, 12, 3, 4, 4, 0])

    def test_of_a_game_that_is_over(self):
        self.assertEqual(balls(over()), [4, 13, 0, 13, 0, 5, 5])
        self.assertEqual(balls(game((12, 12, 12, 12)) + [turn(0), stroke(peg=[2, 1, 0, 3])]),
                         [4, 13, 13, 13, 13, 0, 0])


class HalfTurnsLeft(unittest.TestCase):
    def test_as_they_were_told(self):
        for a, b in ((0, 40), (40, 0), (3, 7)):
            for first in (0, 1):
                self.assertEqual(balls([begin(0, first, a, b)]), [4, 0, 0, 0, 0, a, b])

    def test_behind_turns_more(self):
        calls = [begin(0, 0, 5, 6), turn(2), stroke(), more(1)]
        self.assertEqual(balls(calls), [4, 0, 0, 0, 0, 4, 6])
        calls += [stroke(), more(0)]
        self.assertEqual(balls(calls), [4, 0, 0, 0, 0, 2, 6])
        calls += hoops(1) + [stroke(), turn(1), stroke(), more(0)]
        self.assertEqual(balls(calls), [4, 0, 0, 1, 0, 2, 4])
        calls += [stroke(), more(1), stroke(), PASS, turn(3), stroke(), more(1)]
        self.assertEqual(balls(calls), [4, 0, 0, 1, 0, 2, 2])

    def test_to_the_last(self):
        calls = [begin(0, 1, 0, 3), turn(1), stroke(), more(0), stroke(), more(1), stroke(), more(1)]
        self.assertEqual(play(calls)[-1], [-5])
        self.assertEqual(balls(calls), [4, 0, 0, 0, 0, 0, 0])

    def test_not_by_a_refusal_a_pass_wired_or_time(self):
        calls = [begin(0, 0, 1, 6), turn(2), stroke(), more(0), more(2), WIRED, PASS, more(1), TIME, turn(0), stroke()]
        self.assertEqual(balls(calls + [more(1)]), [4, 0, 0, 0, 0, 1, 6])


class NothingChanges(unittest.TestCase):
    def test_asked_again_it_answers_the_same(self):
        calls = game((1, 2, 3, 4), a=5, b=6) + [turn(0), stroke(hit=1)]
        told = [4, 1, 2, 3, 4, 5, 6]
        self.assertEqual(play(calls + [BALLS, BALLS, NOW, BALLS])[-4:],
                         [told, told, [1, 0, 0, 0, 0, 1, 0, 1, 2, 3], told])


if __name__ == "__main__":
    unittest.main()
