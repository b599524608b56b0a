"""Point 2: calls with no game yet, and with a game that's over."""

import unittest

from tests.helper import BALLS, HIGHEST, LOWEST, NOW, PASS, TIME, WIRED, balls, begin, last, more, now, over, play
from tests.helper import stroke, timed, turn

CHANGING = [turn(0), turn(3, 2), stroke(), stroke(hit=1, hoop=1, ran=[2]), PASS, more(0), more(1), WIRED, TIME]
OUTSIDE = [turn(4), turn(0, 3), turn(-1, LOWEST), stroke(hit=4), stroke(hoop=2), stroke(fault=-1), stroke(ran=[4]),
           stroke(peg=[-1]), stroke(off=[HIGHEST]), more(2), more(-1)]

# Calls up to the end of a game; what now and balls answer of it.
ENDS = (
    (over(), [3, 0], [4, 13, 0, 13, 0, 5, 5]),
    (timed((0, 2, 0, 0), time=2) + [PASS], [3, 1], [4, 0, 2, 0, 0, 9, 9]),
    (timed((3, 0, 0, 1), time=2) + [turn(2), stroke(hit=1), stroke(fault=1)], [3, 0], [4, 3, 0, 0, 1, 9, 9]),
    (timed((1, 1, 0, 0), time=3) + [turn(0), stroke(hit=1, ran=[3])], [3, 1], [4, 1, 1, 0, 1, 9, 9]),
)


class NoGameYet(unittest.TestCase):
    def test_each_call_but_begin(self):
        for call in CHANGING + [NOW, BALLS]:
            self.assertEqual(play([call]), [[-2]])

    def test_each_on_one_list(self):
        calls = CHANGING + [NOW, BALLS]
        self.assertEqual(play(calls + calls), [[-2]] * 2 * len(calls))

    def test_behind_minus_1(self):
        for call in OUTSIDE:
            self.assertEqual(play([call]), [[-1]])

    def test_a_refused_begin_makes_no_game(self):
        for call in CHANGING + [NOW, BALLS]:
            self.assertEqual(play([begin(lifts=2), begin(b=41), call]), [[-1], [-1], [-2]])

    def test_a_game_begins_behind_them(self):
        answered = play(CHANGING + [NOW, BALLS, begin(0, 1, 2, 3), NOW, BALLS])
        self.assertEqual(answered[-3:], [[0], [2, 1, 0, 0], [4, 0, 0, 0, 0, 2, 3]])


class GameOver(unittest.TestCase):
    def test_each_call_but_begin_now_and_balls(self):
        for calls, won, told in ENDS:
            for call in CHANGING:
                self.assertEqual(last(calls + [call]), [-2])

    def test_behind_minus_1(self):
        for calls, won, told in ENDS:
            for call in OUTSIDE:
                self.assertEqual(last(calls + [call]), [-1])

    def test_now_tells_the_side_that_has_won_and_no_more(self):
        for calls, won, told in ENDS:
            self.assertEqual(now(calls), won)

    def test_balls_tells_as_ever(self):
        for calls, won, told in ENDS:
            self.assertEqual(balls(calls), told)

    def test_nothing_changes(self):
        for calls, won, told in ENDS:
            answered = play(calls + CHANGING + OUTSIDE + [NOW, BALLS, NOW])
            self.assertEqual(answered[-3:], [won, told, won])

    def test_begin_is_answered(self):
        for calls, won, told in ENDS:
            answered = play(calls + [begin(1, 1, 0, 40), NOW, BALLS, turn(3)])
            self.assertEqual(answered[-4:], [[0], [2, 1, 0, 0], [4, 0, 0, 0, 0, 0, 40], [0]])


if __name__ == "__main__":
    unittest.main()
