"""The call now: each form of its answer."""

import unittest

from tests.helper import BALLS, HIGHEST, NOW, PASS, TIME, WIRED, begin, game, hoops, last, more, now, over, play, stroke
from tests.helper import timed, turn


class NoTurnHasBegun(unittest.TestCase):
    def test_of_a_new_game(self):
        for lifts in (0, 1):
            self.assertEqual(now([begin(lifts, 0, 3, 4)]), [2, 0, 0, 0])
            self.assertEqual(now([begin(lifts, 1, 3, 4)]), [2, 1, 0, 0])

    def test_behind_a_turn(self):
        for ball in range(4):
            calls = [begin(0, ball % 2), turn(ball), stroke()]
            self.assertEqual(now(calls), [2, 1 - ball % 2, 0, 0])

    def test_behind_a_pass(self):
        self.assertEqual(now([begin(), PASS]), [2, 1, 0, 0])
        self.assertEqual(now([begin(), PASS, PASS]), [2, 0, 0, 0])

    def test_what_is_owed(self):
        for how_many, wanted in ((6, 0), (7, 1), (10, 2)):
            self.assertEqual(now([begin(1), turn(2)] + hoops(how_many) + [stroke()]), [2, 1, wanted, 0])
        self.assertEqual(now([begin(), WIRED]), [2, 0, 1, 0])

    def test_the_time(self):
        self.assertEqual([now(timed(time=time)) for time in (1, 2, 3)], [[2, 0, 0, 1], [2, 0, 0, 2], [2, 0, 0, 3]])


class TurnHasBegun(unittest.TestCase):
    def test_its_ball_and_the_live_balls(self):
        for ball in range(4):
            others = [other for other in range(4) if other != ball]
            self.assertEqual(now([begin(0, ball % 2), turn(ball)]), [0, ball % 2, 0, 0, ball, -1, 0, 0] + others)

    def test_a_stroke_with_a_ball_at_its_side(self):
        for ball in range(4):
            for hit in [other for other in range(4) if other != ball]:
                live = [other for other in range(4) if other not in (ball, hit)]
                calls = [begin(0, ball % 2), turn(ball), stroke(hit=hit)]
                self.assertEqual(now(calls), [1, ball % 2, 0, 0, ball, hit, 0, 1] + live)
                self.assertEqual(now(calls + [stroke()]), [0, ball % 2, 0, 0, ball, -1, 0, 2] + live)

    def test_one_ball_at_its_side_behind_another(self):
        calls = [begin(), turn(0), stroke(hit=3)]
        self.assertEqual(now(calls), [1, 0, 0, 0, 0, 3, 0, 1, 1, 2])
        self.assertEqual(now(calls + [stroke(hit=1)]), [1, 0, 0, 0, 0, 1, 0, 2, 2])
        self.assertEqual(now(calls + [stroke(hit=1), stroke(hit=2)]), [1, 0, 0, 0, 0, 2, 0, 3])
        self.assertEqual(now(calls + [stroke(hit=1), stroke(hit=2), stroke()]), [0, 0, 0, 0, 0, -1, 0, 4])

    def test_live_balls_again_behind_a_hoop_rising(self):
        spent = [begin(), turn(2), stroke(hit=3), stroke(hit=1), stroke(hit=0)]
        self.assertEqual(now(spent), [1, 0, 0, 0, 2, 0, 0, 3])
        self.assertEqual(now(spent + [stroke(hoop=1)]), [0, 0, 0, 0, 2, -1, 0, 4, 0, 1, 3])
        self.assertEqual(now(spent + [stroke(hoop=1, hit=1)]), [1, 0, 0, 0, 2, 1, 0, 4, 0, 3])

    def test_a_hit_that_does_not_count(self):
        self.assertEqual(now([begin(), turn(0), stroke(hit=1), stroke(hit=1)]), [0, 0, 0, 0, 0, -1, 0, 2, 2, 3])

    def test_balls_that_are_out(self):
        self.assertEqual(now(game((0, 13, 0, 0)) + [turn(2)]), [0, 0, 0, 0, 2, -1, 0, 0, 0, 3])
        self.assertEqual(now(game((13, 0, 0, 13)) + [turn(2)]), [0, 0, 0, 0, 2, -1, 0, 0, 1])
        calls = game((12, 12, 0, 12)) + [turn(0), stroke(hit=1)]
        self.assertEqual(now(calls + [stroke(peg=[3])]), [0, 0, 0, 0, 0, -1, 0, 2, 2])
        self.assertEqual(now(calls + [stroke(peg=[1])]), [0, 0, 0, 0, 0, -1, 0, 2, 2, 3])
        self.assertEqual(now(calls + [stroke(hit=3, peg=[3])]), [0, 0, 0, 0, 0, -1, 0, 2, 2])
        self.assertEqual(now(calls + [stroke(hit=2, peg=[3])]), [1, 0, 0, 0, 0, 2, 0, 2])

    def test_a_half_turn(self):
        behind = [begin(0, 1, 5, 5), turn(3), stroke()]
        self.assertEqual(now(behind + [more(1)]), [0, 1, 0, 0, 3, -1, 1, 0, 0, 1, 2])
        self.assertEqual(now(behind + [more(1), stroke(hit=0)]), [1, 1, 0, 0, 3, 0, 1, 1, 1, 2])
        self.assertEqual(now(behind + [more(1), stroke(hit=0), stroke(hoop=1)]), [0, 1, 0, 0, 3, -1, 1, 2, 1, 2])
        self.assertEqual(now(behind + [more(0)]), [0, 1, 0, 0, 3, -1, 0, 0, 0, 1, 2])

    def test_the_turn_behind_a_half_turn_is_whole(self):
        calls = [begin(0, 0, 5, 5), turn(0), stroke(), more(1), stroke(), turn(1)]
        self.assertEqual(now(calls), [0, 1, 0, 0, 1, -1, 0, 0, 0, 2, 3])

    def test_what_was_owed_is_gone(self):
        ten = [begin(1), turn(0)] + hoops(10) + [stroke()]
        for how in (0, 1, 2):
            self.assertEqual(now(ten + [turn(1, how)]), [0, 1, 0, 0, 1, -1, 0, 0, 0, 2, 3])

    def test_the_time(self):
        for time in (1, 2, 3):
            self.assertEqual(now(timed(time=time) + [turn(2)]), [0, 0, 0, time, 2, -1, 0, 0, 0, 1, 3])
            self.assertEqual(now(timed(time=time, first=1) + [turn(1), stroke(hit=3)]),
                             [1, 1, 0, time, 1, 3, 0, 1, 0, 2])


class HowManyStrokes(unittest.TestCase):
    def strokes(self, calls):
        return now(calls)[7]

    def test_each_that_was_made(self):
        calls = [begin(), turn(0)]
        for number in range(12):
            self.assertEqual(self.strokes(calls + hoops(number)), number)

    def test_none_that_was_refused(self):
        wrong = [stroke(hit=0), stroke(hit=4), stroke(ran=[1, 1]), turn(0), PASS, more(1), WIRED]
        self.assertEqual(self.strokes([begin(), turn(0)] + wrong + hoops(2) + wrong), 2)

    def test_from_nothing_with_each_turn(self):
        calls = [begin(0, 0, 9, 9), turn(0)] + hoops(3) + [stroke()]
        self.assertEqual(self.strokes(calls + [more(0)]), 0)
        self.assertEqual(self.strokes(calls + [more(1), stroke(hit=1)]), 1)
        self.assertEqual(self.strokes(calls + [turn(1)]), 0)
        self.assertEqual(self.strokes(calls + [turn(1), stroke(hoop=1)]), 1)


class GameOver(unittest.TestCase):
    def test_won_by_both_balls_out(self):
        self.assertEqual(now(over()), [3, 0])
        self.assertEqual(now(game((0, 13, 0, 12), first=1) + [turn(3), stroke(peg=[3])]), [3, 1])

    def test_won_by_the_other_sides_stroke(self):
        self.assertEqual(now(game((12, 12, 0, 12)) + [turn(0), stroke(hit=1, peg=[1, 3])]), [3, 1])
        self.assertEqual(now(game((12, 12, 12, 0), first=1) + [turn(1), stroke(peg=[0, 2])]), [3, 0])

    def test_won_by_both_sides_balls_out_by_one_stroke(self):
        for striker in range(4):
            calls = game((12, 12, 12, 12), first=striker % 2) + [turn(striker), stroke(peg=[0, 1, 2, 3])]
            self.assertEqual(now(calls), [3, striker % 2])

    def test_won_once_time_is_called(self):
        self.assertEqual(now(timed((1, 0, 0, 0)) + [PASS, PASS]), [3, 0])
        self.assertEqual(now(timed((0, 0, 0, 1)) + [PASS, turn(1), stroke()]), [3, 1])
        self.assertEqual(now(timed(time=3) + [turn(0), stroke(hit=1, ran=[1])]), [3, 1])


class NothingChanges(unittest.TestCase):
    """What is asked, and what is refused, changes nothing of what may be done next."""

    SEVEN = [begin(1, 0, 5, 5), turn(0)] + hoops(7) + [stroke()]
    PLACES = (
        [begin(0, 0, 5, 5)],
        SEVEN,
        SEVEN + [PASS],
        [begin(0, 0, 5, 5), turn(0), stroke(hit=1)],
        [begin(0, 0, 5, 5), turn(0), stroke(hit=1), stroke()],
        [begin(0, 0, 5, 5), turn(0), stroke(), more(1), stroke(hit=1)],
        timed(time=1),
        timed(time=2),
        timed(time=3) + [turn(0)],
        over(),
    )
    TRIED = (turn(0), turn(1, 1), turn(3, 2), stroke(), stroke(hit=1), stroke(hit=2, hoop=1), stroke(off=[1]), PASS,
             more(0), more(1), TIME, NOW, BALLS, begin(0, 1, 2, 2))

    def test_by_now_and_balls(self):
        for calls in self.PLACES:
            for tried in self.TRIED + (WIRED,):
                wanted = play(calls + [tried, NOW, BALLS])[-3:]
                self.assertEqual(play(calls + [NOW, BALLS, NOW, tried, NOW, BALLS])[-3:], wanted)

    def test_by_a_refusal(self):
        for calls in self.PLACES:
            refused = [begin(lifts=2), turn(HIGHEST), turn(0, -1), stroke(hit=7), stroke(off=[9]), more(-3)]
            refused += [call for call in [PASS, WIRED, TIME, more(0), turn(0, 2), turn(1, 2), stroke(ran=[0, 0])]
                        if last(calls + [call])[0] < 0]
            for tried in self.TRIED + (WIRED,):
                wanted = play(calls + [tried, NOW, BALLS])[-3:]
                self.assertEqual(play(calls + refused + [tried, NOW, BALLS])[-3:], wanted)

    def test_by_wired_but_how_a_turn_may_begin(self):
        for calls in self.PLACES:
            for tried in [call for call in self.TRIED if call[0] != 2 and call != NOW]:
                wanted = play(calls + [tried, BALLS])[-2:]
                self.assertEqual(play(calls + [WIRED, tried, BALLS])[-2:], wanted)


if __name__ == "__main__":
    unittest.main()
