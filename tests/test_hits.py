"""Whether a hit counts."""

import unittest

from tests.helper import begin, game, hoops, last, more, now, play, stroke, turn

COUNTS = 1


class Hits(unittest.TestCase):
    def test_a_live_ball_counts_once(self):
        calls = [begin(), turn(0), stroke(hit=1), stroke()]
        self.assertEqual(last(calls + [stroke(hit=1)]), [2, 0, 0])
        self.assertEqual(last(calls + [stroke(hit=2)]), [COUNTS, 0, 0])
        self.assertEqual(last(calls + [stroke(hit=3)]), [COUNTS, 0, 0])

    def test_each_of_the_three_counts_once(self):
        answered = play([begin(), turn(0)] + [stroke(hit=3), stroke(hit=1), stroke(hit=2), stroke(hit=3), stroke(hit=1)])
        self.assertEqual([answer[0] for answer in answered[2:]], [1, 1, 1, 0, 2])

    def test_the_ball_at_its_side_is_not_live(self):
        self.assertEqual(last([begin(), turn(0), stroke(hit=2), stroke(hit=2)]), [0, 0, 0])

    def test_with_a_hoop_in_the_same_stroke_all_are_live(self):
        spent = [begin(), turn(0), stroke(hit=1), stroke(hit=2), stroke(hit=3), stroke()]
        for hit in (1, 2, 3):
            self.assertEqual(last(spent + [stroke(hit=hit)]), [2, 0, 0])
            self.assertEqual(last(spent + [stroke(hit=hit, hoop=1)]), [COUNTS, 1, 0])

    def test_with_a_hoop_the_ball_at_its_side_is_live_too(self):
        self.assertEqual(last([begin(), turn(0), stroke(hit=2), stroke(hit=2, hoop=1)]), [COUNTS, 1, 0])

    def test_with_a_hoop_the_ball_that_was_hit_is_spent_and_no_other(self):
        calls = [begin(), turn(0), stroke(hit=1), stroke(hit=2), stroke(hit=3), stroke(hit=2, hoop=1)]
        self.assertEqual(last(calls + [stroke(hit=2)]), [0, 1, 0])
        self.assertEqual(last(calls + [stroke(hit=1)]), [COUNTS, 1, 0])
        self.assertEqual(last(calls + [stroke(hit=3)]), [COUNTS, 1, 0])

    def test_with_a_hoop_in_the_stroke_before_all_are_live(self):
        calls = [begin(), turn(0), stroke(hit=1), stroke(hit=2), stroke(hit=3), stroke(hoop=1)]
        for hit in (1, 2, 3):
            self.assertEqual(last(calls + [stroke(hit=hit)]), [COUNTS, 1, 0])

    def test_hoops_of_others_make_none_live(self):
        calls = [begin(), turn(0), stroke(hit=1), stroke(ran=[1, 2])]
        self.assertEqual(last(calls + [stroke(hit=1, ran=[1, 2])]), [2, 2, 2])

    def test_a_ball_put_out_by_the_very_stroke_was_live(self):
        # By itself, next: the hit counts, but there's no ball left to go on with.
        self.assertEqual(last(game((12, 12, 0, 0)) + [turn(0), stroke(hit=1, peg=[1])]), [0, 12, 13])
        calls = game((11, 12, 0, 0)) + [turn(0), stroke(hit=1), stroke()]
        self.assertEqual(last(calls + [stroke(hit=1, hoop=1, peg=[1])]), [0, 12, 13])


class HalfTurns(unittest.TestCase):
    def setUp(self):
        self.calls = [begin(0, 0, 9, 0), turn(0), stroke(), more(1)]

    def test_hits_count(self):
        for hit in (1, 2, 3):
            self.assertEqual(last(self.calls + [stroke(hit=hit)]), [COUNTS, 0, 0])

    def test_a_hoop_makes_none_live(self):
        spent = self.calls + [stroke(hit=1), stroke()]
        self.assertEqual(last(spent + [stroke(hit=1, hoop=1)]), [2, 0, 0])
        self.assertEqual(last(spent + [stroke(hit=2, hoop=1)]), [COUNTS, 0, 0])


class LiveBalls(unittest.TestCase):
    def assert_live(self, calls, wanted):
        self.assertEqual(now(calls)[8:], wanted)

    def test_as_a_turn_begins(self):
        self.assert_live([begin(), turn(0)], [1, 2, 3])
        self.assert_live([begin(first=1), turn(3)], [0, 1, 2])
        self.assert_live(game((0, 13, 0, 0)) + [turn(2)], [0, 3])

    def test_behind_a_hit(self):
        self.assert_live([begin(), turn(0), stroke(hit=2)], [1, 3])
        self.assert_live([begin(), turn(0), stroke(hit=2), stroke(hit=1)], [3])
        self.assert_live([begin(), turn(0), stroke(hit=2), stroke(hit=2)], [1, 3])

    def test_behind_a_hit_that_puts_balls_out(self):
        calls = game((12, 12, 0, 12)) + [turn(0)]
        self.assert_live(calls + [stroke(hit=1, peg=[1])], [2, 3])
        self.assert_live(calls + [stroke(hit=1, peg=[3])], [2])
        self.assert_live(calls + [stroke(hit=2, peg=[3])], [1])

    def test_behind_a_hoop(self):
        self.assert_live([begin(), turn(0), stroke(hit=1), stroke(hoop=1)], [1, 2, 3])
        self.assert_live([begin(), turn(0), stroke(hit=1), stroke(hoop=1, hit=3)], [1, 2])
        calls = game((11, 12, 13, 0)) + [turn(0), stroke(hit=3)]
        self.assert_live(calls + [stroke(hoop=1)], [1, 3])
        self.assert_live(calls + [stroke(hoop=1, peg=[1])], [3])
        self.assert_live(calls + [stroke(hoop=1, hit=3, peg=[1])], [])

    def test_behind_a_stroke_with_a_ball_at_its_side(self):
        self.assert_live([begin(), turn(0), stroke(hit=1), stroke()], [2, 3])
        calls = game((12, 12, 0, 12)) + [turn(0), stroke(hit=1)]
        self.assert_live(calls + [stroke(peg=[3])], [2])
        self.assert_live(calls + [stroke(peg=[1])], [2, 3])

    def test_behind_hoops_alone(self):
        self.assert_live([begin(), turn(0)] + hoops(12), [1, 2, 3])


if __name__ == "__main__":
    unittest.main()
