"""The limits told in bold: 91 strokes a turn, 13 points a ball, each other ball once between two hoops."""

import unittest

from tests.helper import balls, begin, game, hoops, more, now, play, stroke, turn

ALL_HITS = [stroke(hit=1), stroke(), stroke(hit=2), stroke(), stroke(hit=3), stroke()]


class LongestTurn(unittest.TestCase):
    def test_a_turn_may_have_91_strokes_and_no_more(self):
        strokes = (ALL_HITS + [stroke(hoop=1)]) * 12 + ALL_HITS + [stroke(hit=1)]
        self.assertEqual(len(strokes), 91)
        answered = play([begin(), turn(0)] + strokes + [stroke()])
        self.assertEqual([answer[0] for answer in answered[2:9]], [1, 0, 1, 0, 1, 0, 0])
        self.assertTrue(all(answer[0] in (0, 1) for answer in answered[2:-2]))
        self.assertEqual(answered[-2:], [[2, 12, 0], [-3]])
        self.assertEqual(now([begin(), turn(0)] + strokes[:-1]), [0, 0, 0, 0, 0, -1, 0, 90])
        self.assertEqual(now([begin(), turn(0)] + strokes), [2, 1, 0, 0])

    def test_the_91st_stroke_may_make_the_peg(self):
        strokes = (ALL_HITS + [stroke(hoop=1)]) * 12 + ALL_HITS + [stroke(peg=[0])]
        self.assertEqual(play([begin(), turn(0)] + strokes)[-2:], [[0, 12, 0], [2, 13, 0]])

    def test_a_half_turn_may_have_7_strokes(self):
        calls = [begin(0, 0, 1), turn(0), stroke(), more(1)] + ALL_HITS + [stroke(hoop=1, hit=1), stroke()]
        self.assertEqual([answer[0] for answer in play(calls)[4:]], [1, 0, 1, 0, 1, 0, 2, -3])


class MostPoints(unittest.TestCase):
    def test_no_hoop_and_no_peg_behind_the_13th_point(self):
        calls = game((12, 12, 0, 0)) + [turn(0), stroke(peg=[1]), turn(3), stroke(peg=[1]), stroke(ran=[1])]
        self.assertEqual(play(calls)[-4:], [[2, 12, 13], [0], [-4], [-4]])
        self.assertEqual(balls(calls), [4, 12, 13, 0, 0, 0, 0])

    def test_no_more_hoops_than_12(self):
        self.assertEqual(play([begin(), turn(0)] + hoops(13))[-2:], [[0, 12, 0], [-4]])
        calls = game((0, 12, 0, 0)) + [turn(0), stroke(ran=[1])]
        self.assertEqual(play(calls)[-1], [2, 0, 12])


class OnceBetweenTwoHoops(unittest.TestCase):
    def test_each_other_ball_counts_once(self):
        for hit in (1, 2, 3):
            calls = [begin(), turn(0), stroke(hit=hit), stroke(hit=hit), stroke(hoop=1)]
            calls += [stroke(hit=hit), stroke(hit=hit), stroke(hit=hit)]
            self.assertEqual([answer[0] for answer in play(calls)[2:]], [1, 0, 0, 1, 0, 2])


if __name__ == "__main__":
    unittest.main()
