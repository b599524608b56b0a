"""The limits told in bold: 91 strokes a turn, 13 points a ball, each other ball once between two hoops."""

import random
import unittest

from tests.helper import Table, begin, game, hoops, more, play, stroke, turn

ALL_HITS = [stroke(hit=1), stroke(), stroke(hit=2), stroke(), stroke(hit=3), stroke()]


class LongestTurn(unittest.TestCase):
    def test_a_turn_may_have_91_strokes_and_no_more(self):
        strokes = (ALL_HITS + [stroke(hoop=1)]) * 12 + ALL_HITS + [stroke(hit=1)]
        self.assertEqual(len(strokes), 91)
        answered = play([begin(), turn(0)] + strokes + [stroke()])
        self.assertEqual([answer[0] for answer in answered[2:9]], [1, 0, 1, 0, 1, 0, 0])
        self.assertTrue(all(answer[0] in (0, 1) for answer in answered[2:-2]))
        self.assertEqual(answered[-2:], [[2, 12, 0], [-3]])

    def test_the_91st_stroke_may_make_the_peg(self):
        strokes = (ALL_HITS + [stroke(hoop=1)]) * 12 + ALL_HITS + [stroke(peg=[0])]
        self.assertEqual(play([begin(), turn(0)] + strokes)[-2:], [[0, 12, 0], [2, 13, 0]])

    def test_a_half_turn_may_have_7_strokes(self):
        calls = [begin(0, 0, 1), turn(0), stroke(), more(1)] + ALL_HITS + [stroke(hoop=1, hit=1), stroke()]
        self.assertEqual([answer[0] for answer in play(calls)[4:]], [1, 0, 1, 0, 1, 0, 2, -3])


class MostPoints(unittest.TestCase):
    def test_no_hoop_and_no_peg_behind_the_13th_point(self):
        calls = game((12, 12, 0, 0)) + [turn(0), stroke(peg=[1]), turn(3), stroke(peg=[1]), stroke(ran=[1])]
        self.assertEqual(play(calls)[-4:], [[2, 12, 13], [0], [-4], [-4]])

    def test_no_more_hoops_than_12(self):
        self.assertEqual(play([begin(), turn(0)] + hoops(13))[-2:], [[0, 12, 0], [-4]])
        calls = game((0, 12, 0, 0)) + [turn(0), stroke(ran=[1])]
        self.assertEqual(play(calls)[-1], [2, 0, 12])


class OnceBetweenTwoHoops(unittest.TestCase):
    def test_each_other_ball_counts_once(self):
        for hit in (1, 2, 3):
            calls = [begin(), turn(0), stroke(hit=hit), stroke(hit=hit), stroke(hoop=1)]
            calls += [stroke(hit=hit), stroke(hit=hit), stroke(hit=hit)]
            self.assertEqual([answer[0] for answer in play(calls)[2:]], [1, 0, 0, 1, 0, 2])


class AnyPlay(unittest.TestCase):
    """Whatever is told, of a great many games made up by a fixed seed, stays within the limits."""

    def told(self, dice):
        balls = [ball for ball in range(4) if dice.random() < 0.3]
        return stroke(hit=dice.randint(-1, 3), hoop=dice.randint(0, 1), fault=int(dice.random() < 0.02),
                      ran=balls, peg=[ball for ball in range(4) if dice.random() < 0.1],
                      off=[ball for ball in range(4) if dice.random() < 0.05])

    def call(self, dice):
        chance = dice.random()
        if chance < 0.80:
            return self.told(dice)
        if chance < 0.95:
            return turn(dice.randint(0, 3), dice.choice((0, 0, 0, 1, 2)))
        return dice.choice(([4], more(1), more(0)))

    def play_one(self, dice):
        table = Table([begin(dice.randint(0, 1), dice.randint(0, 1), 10, 10)])
        state = table.referee.game
        strokes = 0
        for number in range(299):
            call = self.call(dice)
            before = list(state.points)
            answer = table.last([call])
            self.assertTrue(all(old <= new <= 13 for old, new in zip(before, state.points)))
            if answer[0] < 0:
                self.assertEqual((len(answer), state.points), (1, before))
            elif call[0] == 3:
                strokes += 1
                self.assertLessEqual(strokes, 91)
                self.assertEqual(answer[1:], [state.points[0] + state.points[2], state.points[1] + state.points[3]])
            elif call[0] in (2, 5):
                strokes = 0

    def test_stays_within_the_limits(self):
        dice = random.Random(91)
        for number in range(200):
            self.play_one(dice)


if __name__ == "__main__":
    unittest.main()
