"""What comes next behind a stroke: the five cases, in the document's order."""

import unittest

from tests.helper import begin, game, last, more, play, stroke, turn

BY_ITSELF = 0
AT_SIDE = 1
OVER = 2

WITH_1 = [begin(), turn(0), stroke(hit=1)]
# Half a turn of ball 0, with ball 1 at its side.
HALF_WITH_1 = [begin(0, 0, 9, 0), turn(0), stroke(), more(1), stroke(hit=1)]
# Balls 0, 1 and 3 have all 12; ball 1 is at ball 0's side.
PEGGING_WITH_1 = game((12, 12, 0, 12)) + [turn(0), stroke(hit=1)]


class CaseTest(unittest.TestCase):
    def assert_next(self, wanted, calls):
        self.assertEqual(last(calls)[0], wanted)


class TurnOverAtOnce(CaseTest):
    def test_a_faulty_stroke(self):
        for calls in ([begin(), turn(0)], WITH_1):
            self.assert_next(OVER, calls + [stroke(fault=1)])
            self.assert_next(OVER, calls + [stroke(fault=1, hit=2)])
            self.assert_next(OVER, calls + [stroke(fault=1, hoop=1)])
            self.assert_next(OVER, calls + [stroke(fault=1, hit=2, hoop=1)])

    def test_the_strikers_ball_is_out(self):
        calls = game((12, 12, 0, 0)) + [turn(0)]
        self.assert_next(OVER, calls + [stroke(peg=[0])])
        self.assert_next(OVER, calls + [stroke(hit=1, peg=[0])])
        self.assert_next(OVER, calls + [stroke(hit=1), stroke(peg=[0])])
        self.assert_next(OVER, calls + [stroke(hit=1), stroke(hit=2, peg=[0, 1])])
        self.assert_next(OVER, game((11, 0, 0, 0)) + [turn(0), stroke(hit=1, hoop=1, peg=[0])])

    def test_the_ball_at_its_side_left_the_court(self):
        for calls in (WITH_1, HALF_WITH_1):
            self.assert_next(OVER, calls + [stroke(off=[1])])
            self.assert_next(OVER, calls + [stroke(off=[1], hit=2)])
            self.assert_next(OVER, calls + [stroke(off=[3, 1, 2], hoop=1)])
            self.assert_next(OVER, calls + [stroke(off=[1], hoop=1, hit=1)])

    def test_what_it_counts_stays_where_the_ball_at_its_side_left_the_court(self):
        self.assertEqual(last(WITH_1 + [stroke(off=[1], hoop=1, ran=[3])]), [OVER, 1, 1])

    def test_the_ball_at_its_side_left_the_court_and_is_out(self):
        self.assert_next(BY_ITSELF, PEGGING_WITH_1 + [stroke(peg=[1], off=[1])])
        self.assert_next(AT_SIDE, PEGGING_WITH_1 + [stroke(peg=[1], off=[1], hit=2)])
        self.assert_next(OVER, PEGGING_WITH_1 + [stroke(peg=[3], off=[1], hit=2)])
        self.assert_next(OVER, PEGGING_WITH_1 + [stroke(peg=[1], off=[0, 1])])

    def test_the_strikers_ball_left_the_court(self):
        self.assert_next(OVER, WITH_1 + [stroke(off=[0])])
        self.assert_next(OVER, WITH_1 + [stroke(off=[2, 0])])
        self.assert_next(OVER, HALF_WITH_1 + [stroke(off=[0])])
        self.assert_next(OVER, PEGGING_WITH_1 + [stroke(peg=[1], off=[0])])

    def test_the_strikers_ball_left_the_court_with_a_hit_that_does_not_count(self):
        self.assert_next(OVER, WITH_1 + [stroke(off=[0], hit=1)])

    def test_the_strikers_ball_left_the_court_having_run_a_hoop(self):
        self.assert_next(BY_ITSELF, WITH_1 + [stroke(off=[0], hoop=1)])
        self.assert_next(AT_SIDE, WITH_1 + [stroke(off=[0], hoop=1, hit=1)])

    def test_the_strikers_ball_left_the_court_with_a_hit_that_counts(self):
        self.assert_next(AT_SIDE, WITH_1 + [stroke(off=[0], hit=2)])
        self.assert_next(AT_SIDE, HALF_WITH_1 + [stroke(off=[0], hit=2)])

    def test_in_a_half_turn_no_hoop_helps_that(self):
        self.assert_next(OVER, HALF_WITH_1 + [stroke(off=[0], hoop=1)])
        self.assert_next(OVER, HALF_WITH_1 + [stroke(off=[0], hoop=1, hit=1)])

    def test_others_left_the_court(self):
        self.assert_next(BY_ITSELF, WITH_1 + [stroke(off=[2, 3])])
        self.assert_next(AT_SIDE, WITH_1 + [stroke(off=[2, 3], hit=2)])

    def test_balls_left_the_court_in_a_stroke_by_itself(self):
        calls = [begin(), turn(0)]
        self.assert_next(AT_SIDE, calls + [stroke(hit=1, off=[1])])
        self.assert_next(AT_SIDE, calls + [stroke(hit=1, off=[0])])
        self.assert_next(AT_SIDE, calls + [stroke(hit=3, off=[0, 1, 2, 3])])
        self.assert_next(BY_ITSELF, calls + [stroke(hoop=1, off=[0, 1, 2, 3])])
        self.assert_next(AT_SIDE, WITH_1 + [stroke(), stroke(hit=2, off=[0, 1])])


class HitCounts(CaseTest):
    def test_the_next_is_with_the_ball_that_was_hit(self):
        for hit in (1, 2, 3):
            calls = [begin(), turn(0), stroke(hit=hit)]
            self.assert_next(AT_SIDE, calls)
            for off in (1, 2, 3):
                self.assert_next(OVER if off == hit else BY_ITSELF, calls + [stroke(off=[off])])

    def test_one_ball_at_its_side_behind_another(self):
        calls = WITH_1 + [stroke(hit=2)]
        self.assert_next(AT_SIDE, calls)
        self.assert_next(BY_ITSELF, calls + [stroke(off=[1])])
        self.assert_next(OVER, calls + [stroke(off=[2])])

    def test_a_hit_comes_ahead_of_a_hoop(self):
        self.assert_next(AT_SIDE, [begin(), turn(0), stroke(hit=1, hoop=1)])

    def test_the_ball_that_was_hit_is_out(self):
        calls = game((12, 12, 0, 12)) + [turn(0), stroke(hit=1, peg=[1])]
        self.assert_next(BY_ITSELF, calls)
        self.assert_next(OVER, calls + [stroke()])
        self.assert_next(AT_SIDE, calls + [stroke(hit=2)])
        self.assert_next(BY_ITSELF, PEGGING_WITH_1 + [stroke(hit=3, peg=[3])])
        self.assert_next(OVER, PEGGING_WITH_1 + [stroke(hit=3, peg=[3]), stroke()])

    def test_it_is_not_live_any_more(self):
        self.assert_next(BY_ITSELF, WITH_1 + [stroke(hit=1)])


class HoopRun(CaseTest):
    def test_the_next_is_by_itself(self):
        for calls in ([begin(), turn(0)], WITH_1):
            self.assert_next(BY_ITSELF, calls + [stroke(hoop=1)])
            self.assert_next(OVER, calls + [stroke(hoop=1), stroke()])

    def test_all_others_are_live(self):
        for hit in (1, 2, 3):
            self.assert_next(AT_SIDE, WITH_1 + [stroke(hit=2), stroke(hoop=1), stroke(hit=hit)])

    def test_not_in_a_half_turn(self):
        calls = [begin(0, 0, 9, 0), turn(0), stroke(), more(1)]
        self.assert_next(OVER, calls + [stroke(hoop=1)])
        self.assert_next(BY_ITSELF, HALF_WITH_1 + [stroke(hoop=1)])
        self.assert_next(OVER, HALF_WITH_1 + [stroke(hoop=1), stroke(hit=1)])

    def test_hoops_of_others_alone_do_not_help(self):
        self.assert_next(OVER, [begin(), turn(0), stroke(ran=[1, 2, 3])])


class BallWasAtItsSide(CaseTest):
    def test_the_next_is_by_itself(self):
        for calls in (WITH_1, HALF_WITH_1):
            self.assert_next(BY_ITSELF, calls + [stroke()])
            self.assert_next(OVER, calls + [stroke(), stroke()])

    def test_a_hit_that_does_not_count_changes_nothing(self):
        self.assert_next(BY_ITSELF, WITH_1 + [stroke(hit=1)])
        self.assert_next(OVER, WITH_1 + [stroke(hit=1), stroke(hit=1)])

    def test_the_ball_at_its_side_is_out(self):
        self.assert_next(BY_ITSELF, PEGGING_WITH_1 + [stroke(peg=[1])])
        self.assert_next(OVER, PEGGING_WITH_1 + [stroke(peg=[1]), stroke()])

    def test_live_balls_stay_so(self):
        self.assert_next(OVER, WITH_1 + [stroke(), stroke(hit=1)])
        self.assert_next(AT_SIDE, WITH_1 + [stroke(), stroke(hit=2)])
        self.assert_next(AT_SIDE, WITH_1 + [stroke(), stroke(hit=3)])


class ElseTheTurnIsOver(CaseTest):
    def test_a_stroke_by_itself_without_anything(self):
        self.assert_next(OVER, [begin(), turn(0), stroke()])
        self.assert_next(OVER, [begin(), turn(0), stroke(peg=[0, 1], off=[0, 2])])

    def test_a_hit_that_does_not_count(self):
        self.assert_next(OVER, WITH_1 + [stroke(), stroke(hit=1)])

    def test_the_other_side_is_to_begin_then(self):
        self.assertEqual(play([begin(), turn(0), stroke(), turn(0), turn(2), turn(3)])[-3:], [[-4], [-4], [0]])
        self.assertEqual(play(WITH_1 + [stroke(fault=1), turn(2), turn(1)])[-2:], [[-4], [0]])


if __name__ == "__main__":
    unittest.main()
