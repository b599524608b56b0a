"""Point 3: turn."""

import unittest

from tests.helper import HIGHEST, LOWEST, PASS, begin, game, hoops, last, more, over, play, stroke, turn

OWED_1 = [begin(lifts=1), turn(0)] + hoops(7) + [stroke()]
OWED_2 = [begin(lifts=1), turn(0)] + hoops(10) + [stroke()]


class Turns(unittest.TestCase):
    def test_either_ball_of_the_side_may_begin(self):
        for ball in (0, 2):
            self.assertEqual(last([begin(first=0), turn(ball)]), [0])
        for ball in (1, 3):
            self.assertEqual(last([begin(first=1), turn(ball)]), [0])

    def test_sides_take_turns(self):
        calls = [begin()]
        for ball in (0, 1, 2, 3, 2, 3, 0, 1):
            other = 1 - ball % 2
            answered = play(calls + [turn(other), turn(other + 2), turn(ball)])
            self.assertEqual(answered[-3:], [[-4], [-4], [0]])
            calls += [turn(ball), stroke()]

    def test_all_other_balls_are_live_as_it_begins(self):
        for ball in range(4):
            for hit in [other for other in range(4) if other != ball]:
                self.assertEqual(last([begin(first=ball % 2), turn(ball), stroke(hit=hit)]), [1, 0, 0])

    def test_the_first_stroke_is_by_itself(self):
        # With a ball at its side it would go on.
        for ball in range(4):
            self.assertEqual(last([begin(first=ball % 2), turn(ball), stroke()]), [2, 0, 0])
        calls = [begin(), turn(0), stroke(hit=1, off=[1]), stroke(off=[1]), turn(1), stroke()]
        self.assertEqual(last(calls), [2, 0, 0])

    def test_balls_are_live_again_in_the_next_turn(self):
        calls = [begin(), turn(0), stroke(hit=1), stroke(hit=2), stroke(hit=3), stroke(), stroke(), PASS, turn(0)]
        for hit in (1, 2, 3):
            self.assertEqual(last(calls + [stroke(hit=hit)]), [1, 0, 0])

    def test_how_a_turn_begins_changes_nothing_of_it(self):
        for how in (0, 1, 2):
            answered = play(OWED_2 + [turn(1, how), stroke(), PASS, turn(1), stroke(hit=0)])
            self.assertEqual(answered[-5:-3], [[0], [2, 10, 0]])
            self.assertEqual(last(OWED_2 + [turn(1, how), stroke(hit=0)]), [1, 10, 0])


class Refusals(unittest.TestCase):
    def test_ball_or_how_outside(self):
        for wrong in (-1, 4, LOWEST, HIGHEST):
            self.assertEqual(last([begin(), turn(wrong)]), [-1])
        for wrong in (-1, 3, LOWEST, HIGHEST):
            self.assertEqual(last(OWED_2 + [turn(1, wrong)]), [-1])

    def test_no_game_and_a_game_that_is_over(self):
        self.assertEqual(play([turn(0)]), [[-2]])
        for ball in range(4):
            self.assertEqual(last(over() + [turn(ball)]), [-2])

    def test_a_turn_has_begun(self):
        for ball in range(4):
            self.assertEqual(last([begin(), turn(0), turn(ball)]), [-3])
            self.assertEqual(last([begin(), turn(0), stroke(hit=1), turn(ball)]), [-3])
            self.assertEqual(last([begin(0, 0, 2, 2), turn(0), stroke(), more(1), turn(ball)]), [-3])

    def test_a_ball_of_the_other_side(self):
        for ball in (1, 3):
            self.assertEqual(last([begin(), turn(ball)]), [-4])
            self.assertEqual(last([begin(), turn(0), stroke(), PASS, turn(ball)]), [-4])

    def test_a_ball_that_is_out(self):
        for out in range(4):
            points = [13 if ball == out else 12 for ball in range(4)]
            calls = game(points, first=out % 2)
            self.assertEqual(last(calls + [turn(out)]), [-4])
            self.assertEqual(last(calls + [turn((out + 2) % 4)]), [0])

    def test_how_is_more_than_is_owed(self):
        for how in (1, 2):
            self.assertEqual(last([begin(1), turn(0, how)]), [-5])
        self.assertEqual(last(OWED_1 + [turn(1, 2)]), [-5])
        for ball in (1, 3):
            self.assertEqual(last(OWED_1 + [turn(ball, 1)]), [0])
            self.assertEqual(last(OWED_1 + [turn(ball, 0)]), [0])
            self.assertEqual(last(OWED_2 + [turn(ball, 2)]), [0])

    def test_the_one_told_first(self):
        self.assertEqual(play([turn(4), turn(0, 3)]), [[-1], [-1]])
        self.assertEqual(last(over() + [turn(-1)]), [-1])
        self.assertEqual(last(over() + [turn(0, 2)]), [-2])
        self.assertEqual(last([begin(), turn(0), turn(4)]), [-1])
        self.assertEqual(last([begin(), turn(0), turn(1, 2)]), [-3])
        self.assertEqual(last([begin(), turn(1, 2)]), [-4])
        self.assertEqual(last(game((13, 0, 0, 0)) + [turn(0, 2)]), [-4])

    def test_nothing_changes_by_one(self):
        wrong = [turn(4), turn(1, 3), turn(0), turn(2, 1)]
        answered = play(OWED_1 + wrong + [turn(1, 2), turn(1, 1)])
        self.assertEqual(answered[-6:], [[-1], [-1], [-4], [-4], [-5], [0]])
        answered = play([begin(), turn(0), stroke(hit=1), turn(2), turn(1), stroke(), stroke(hit=1)])
        self.assertEqual(answered[-4:], [[-3], [-3], [0, 0, 0], [2, 0, 0]])


if __name__ == "__main__":
    unittest.main()
