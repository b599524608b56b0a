"""The end of a game."""

import unittest

from tests.helper import PASS, Table, begin, game, hoops, last, more, play, stroke, turn

CALLED = 1
LAST_TURN = 2
TILL_ONE_HAS_MORE = 3


class BothBallsOut(unittest.TestCase):
    def assert_won(self, calls, answer, side):
        table = Table(calls[:-1])
        self.assertEqual(table.last(calls[-1:]), answer)
        self.assertEqual(table.referee.game.winner, side)
        self.assertEqual(table.play([turn(0), stroke(), PASS, more(1)]), [[-2]] * 4)

    def test_one_behind_another(self):
        self.assert_won(game((13, 0, 12, 0)) + [turn(2), stroke(peg=[2])], [3, 26, 0], 0)
        self.assert_won(game((12, 0, 13, 0)) + [turn(0), stroke(peg=[0])], [3, 26, 0], 0)
        self.assert_won(game((5, 13, 0, 12), first=1) + [turn(3), stroke(peg=[3])], [3, 5, 26], 1)
        self.assert_won(game((5, 12, 0, 13), first=1) + [turn(1), stroke(peg=[1])], [3, 5, 26], 1)

    def test_both_by_one_stroke(self):
        self.assert_won(game((12, 0, 12, 0)) + [turn(0), stroke(peg=[0, 2])], [3, 26, 0], 0)
        self.assert_won(game((0, 12, 0, 12), first=1) + [turn(3), stroke(peg=[3, 1])], [3, 0, 26], 1)

    def test_the_other_sides_by_the_strikers_stroke(self):
        self.assert_won(game((12, 12, 0, 12)) + [turn(0), stroke(hit=1, peg=[1, 3])], [3, 12, 26], 1)
        self.assert_won(game((12, 13, 0, 12)) + [turn(0), stroke(hit=2, peg=[3])], [3, 12, 26], 1)
        self.assert_won(game((12, 13, 12, 0), first=1) + [PASS, turn(0), stroke(peg=[0]), turn(3)] + hoops(12)
                        + [stroke(hit=2, peg=[2])], [3, 26, 25], 0)

    def test_both_sides_by_one_stroke(self):
        for striker in range(4):
            calls = game((12, 12, 12, 12), first=striker % 2) + [turn(striker), stroke(peg=[3, 1, 2, 0])]
            self.assert_won(calls, [3, 26, 26], striker % 2)

    def test_one_ball_is_not_the_end(self):
        self.assertEqual(last(game((12, 12, 12, 12)) + [turn(0), stroke(peg=[0, 1])]), [2, 25, 25])
        self.assertEqual(last(game((13, 12, 12, 12)) + [turn(2), stroke()]), [2, 25, 24])

    def test_a_side_goes_on_with_the_ball_that_is_left(self):
        calls = game((13, 0, 0, 0)) + [turn(2), stroke(hoop=1), stroke(), turn(1), stroke(), turn(0), turn(2)]
        self.assertEqual(play(calls)[-6:], [[0, 14, 0], [2, 14, 0], [0], [2, 14, 0], [-4], [0]])

    def test_a_faulty_stroke_does_not_end_it(self):
        self.assertEqual(last(game((13, 0, 12, 0)) + [turn(2), stroke(fault=1, peg=[2])]), [2, 25, 0])

    def test_a_half_turn_does_not_end_it(self):
        calls = game((13, 0, 12, 0), a=5) + [turn(2), stroke(), more(1), stroke(peg=[2])]
        self.assertEqual(last(calls), [2, 25, 0])

    def test_more_points_alone_do_not_end_it(self):
        self.assertEqual(play(game((12, 0, 12, 0)) + [turn(0), stroke(), PASS])[-2:], [[2, 24, 0], [2]])


class Time(unittest.TestCase):
    """How turns go on and end once time is called."""

    def timed(self, points, time=CALLED, first=0):
        table = Table(game(points, first=first, a=9, b=9))
        table.referee.game.time = time
        return table

    def test_one_turn_and_one_of_the_other_side(self):
        table = self.timed((3, 1, 0, 0))
        self.assertEqual(table.last([turn(0), stroke()]), [2, 3, 1])
        self.assertEqual(table.referee.game.time, LAST_TURN)
        self.assertEqual(table.play([turn(1), stroke(hoop=1), stroke()]), [[0], [0, 3, 2], [3, 3, 2]])
        self.assertEqual(table.referee.game.winner, 0)
        self.assertEqual(table.play([turn(0), stroke(), PASS, more(1)]), [[-2]] * 4)

    def test_the_turn_that_is_being_played_is_the_first(self):
        table = Table([begin(), turn(0), stroke(hoop=1)])
        table.referee.game.time = CALLED
        self.assertEqual(table.play([stroke(), turn(3), stroke()]), [[2, 1, 0], [0], [3, 1, 0]])

    def test_the_last_turn_may_turn_it(self):
        table = self.timed((1, 0, 0, 0))
        answered = table.play([turn(0), stroke(), turn(1), stroke(hoop=1), stroke(hoop=1), stroke()])
        self.assertEqual(answered[-3:], [[0, 1, 1], [0, 1, 2], [3, 1, 2]])
        self.assertEqual(table.referee.game.winner, 1)

    def test_passes_are_turns(self):
        table = self.timed((0, 2, 0, 0))
        self.assertEqual(table.play([PASS, PASS]), [[2], [3]])
        self.assertEqual(table.referee.game.winner, 1)
        table = self.timed((0, 2, 0, 0), first=1)
        self.assertEqual(table.play([turn(3), stroke(), PASS]), [[0], [2, 0, 2], [3]])
        table = self.timed((0, 2, 0, 0))
        self.assertEqual(table.play([PASS, turn(1), stroke()]), [[2], [0], [3, 0, 2]])

    def test_turns_go_on_till_one_side_has_more(self):
        table = self.timed((2, 2, 0, 0))
        self.assertEqual(table.play([PASS, PASS, PASS]), [[2], [2], [2]])
        self.assertEqual(table.referee.game.time, TILL_ONE_HAS_MORE)
        answered = table.play([turn(1), stroke(hit=0), stroke(), stroke(), turn(0), stroke(hoop=1)])
        self.assertEqual(answered, [[0], [1, 2, 2], [0, 2, 2], [2, 2, 2], [0], [3, 3, 2]])
        self.assertEqual(table.referee.game.winner, 0)

    def test_more_points_behind_the_stroke_count_not_within_it(self):
        table = self.timed((2, 2, 0, 0), TILL_ONE_HAS_MORE)
        self.assertEqual(table.last([turn(0), stroke(hoop=1, ran=[1])]), [0, 3, 3])
        self.assertEqual(table.last([stroke(hit=1, ran=[3])]), [3, 3, 4])
        self.assertEqual(table.referee.game.winner, 1)

    def test_more_points_behind_a_stroke_of_the_first_turns_do_not_end_it(self):
        table = self.timed((0, 0, 0, 0))
        answered = table.play([turn(0), stroke(hoop=1), stroke(), turn(1), stroke(hit=0)])
        self.assertEqual(answered[1:], [[0, 1, 0], [2, 1, 0], [0], [1, 1, 0]])

    def test_both_balls_out_end_it_at_once(self):
        table = self.timed((13, 0, 12, 0))
        self.assertEqual(table.last([turn(2), stroke(peg=[2])]), [3, 26, 0])
        table = self.timed((12, 12, 12, 12), TILL_ONE_HAS_MORE, first=1)
        self.assertEqual(table.last([turn(1), stroke(peg=[0, 1, 2, 3])]), [3, 26, 26])
        self.assertEqual(table.referee.game.winner, 1)

    def test_time_is_not_called_at_the_beginning(self):
        answered = play(game((5, 0, 0, 0)) + [PASS] * 6)
        self.assertEqual(answered[-6:], [[2]] * 6)


if __name__ == "__main__":
    unittest.main()
