"""Point 5: turns more."""

import unittest

from tests.helper import BALLS, HIGHEST, LOWEST, NOW, PASS, TIME, WIRED, begin, game, hoops, last, more, now, over
from tests.helper import play, stroke, turn

BEHIND_A_TURN = [begin(0, 0, 5, 7), turn(0), stroke()]


class TurnsMore(unittest.TestCase):
    def test_a_half_turn_costs_1_and_a_whole_one_2(self):
        self.assertEqual(last(BEHIND_A_TURN + [more(1)]), [4])
        self.assertEqual(last(BEHIND_A_TURN + [more(0)]), [3])

    def test_several_one_behind_another(self):
        answered = play(BEHIND_A_TURN + [more(1), stroke(), more(0), stroke(), more(0), stroke(), more(0), more(1)])
        self.assertEqual(answered[3::2], [[4], [2], [0], [-5]])
        self.assertEqual(answered[-1], [-5])

    def test_each_side_has_its_own(self):
        calls = BEHIND_A_TURN + [more(0), stroke(), turn(3), stroke(), more(1), stroke(), PASS]
        answered = play(calls + [turn(1), stroke(), more(0), stroke(), turn(2), stroke(), more(1)])
        self.assertEqual([answered[3], answered[7], answered[12], answered[16]], [[3], [6], [4], [2]])

    def test_the_turn_has_begun(self):
        for half in (0, 1):
            self.assertEqual(last(BEHIND_A_TURN + [more(half), turn(1)]), [-3])
            self.assertEqual(last(BEHIND_A_TURN + [more(half), PASS]), [-3])
            self.assertEqual(last(BEHIND_A_TURN + [more(half), stroke(hit=1)]), [1, 0, 0])

    def test_it_is_the_ball_of_that_turn(self):
        for ball in range(4):
            calls = [begin(0, ball % 2, 5, 5), turn(ball), stroke(), more(0)]
            for hit in range(4):
                self.assertEqual(last(calls + [stroke(hit=hit)]), [-4] if hit == ball else [1, 0, 0])
            wanted = [0, 1, 0] if ball % 2 == 0 else [0, 0, 1]
            self.assertEqual(last(calls + [stroke(hoop=1)]), wanted)

    def test_the_other_side_is_to_begin_behind_it(self):
        for half in (0, 1):
            answered = play(BEHIND_A_TURN + [more(half), stroke(), turn(0), turn(2), turn(1)])
            self.assertEqual(answered[-3:], [[-4], [-4], [0]])

    def test_all_others_are_live_and_the_first_stroke_is_by_itself(self):
        spent = [begin(0, 0, 5, 5), turn(0), stroke(hit=1), stroke(hit=2), stroke(hit=3), stroke(fault=1)]
        for half in (0, 1):
            self.assertEqual(last(spent + [more(half), stroke()]), [2, 0, 0])
            for hit in (1, 2, 3):
                self.assertEqual(last(spent + [more(half), stroke(hit=hit)]), [1, 0, 0])

    def test_a_half_turn_is_half_and_a_whole_one_whole(self):
        self.assertEqual(last(BEHIND_A_TURN + [more(1), stroke(hoop=1)]), [2, 0, 0])
        self.assertEqual(last(BEHIND_A_TURN + [more(0), stroke(hoop=1)]), [0, 1, 0])

    def test_turns_behind_a_half_turn_are_whole(self):
        behind = BEHIND_A_TURN + [more(1), stroke()]
        self.assertEqual(last(behind + [turn(1), stroke(hoop=1)]), [0, 0, 1])
        self.assertEqual(last(behind + [more(0), stroke(hoop=1)]), [0, 1, 0])
        self.assertEqual(last(behind + [PASS, turn(0), stroke(hoop=1)]), [0, 1, 0])

    def test_behind_any_end_of_a_turn(self):
        calls = [begin(0, 0, 5, 5), turn(0)]
        self.assertEqual(last(calls + [stroke(fault=1), more(1)]), [4])
        self.assertEqual(last(calls + [stroke(hit=1), stroke(off=[1]), more(1)]), [4])
        self.assertEqual(last(calls + hoops(12) + [stroke(), more(1)]), [4])


class Refusals(unittest.TestCase):
    def test_half_outside(self):
        for wrong in (-1, 2, LOWEST, HIGHEST):
            for calls in ([], over(), [begin()], BEHIND_A_TURN, [begin(), turn(0), stroke()]):
                self.assertEqual(last(calls + [more(wrong)]), [-1])

    def test_no_game_and_a_game_that_is_over(self):
        for half in (0, 1):
            self.assertEqual(play([more(half)]), [[-2]])
            self.assertEqual(last(over() + [more(half)]), [-2])

    def test_the_last_thing_done_was_not_the_end_of_a_turn(self):
        begun = [begin(0, 0, 5, 7)]
        places = (
            begun,
            begun + [turn(0)],
            begun + [turn(0), stroke(hit=1)],
            begun + [turn(0), stroke(hoop=1)],
            begun + [PASS],
            BEHIND_A_TURN + [more(1)],
            BEHIND_A_TURN + [more(0), stroke(hit=1)],
            BEHIND_A_TURN + [turn(1)],
            BEHIND_A_TURN + [turn(1), stroke(hit=0)],
            BEHIND_A_TURN + [PASS],
            BEHIND_A_TURN + [begin(0, 0, 5, 7)],
        )
        for calls in places:
            for half in (0, 1):
                self.assertEqual(last(calls + [more(half)]), [-3])

    def test_time_is_called(self):
        tried = [more(1), more(0), more(2)]
        for calls in (
            BEHIND_A_TURN + [TIME],
            [begin(0, 0, 5, 7), turn(0), TIME, stroke()],
            [begin(0, 0, 5, 7), TIME, turn(0), stroke()],
            [begin(0, 0, 5, 7), TIME, PASS, PASS, turn(0), stroke()],
            BEHIND_A_TURN + [more(1), TIME, stroke()],
        ):
            self.assertEqual(play(calls + tried)[-3:], [[-3], [-3], [-1]])

    def test_time_comes_ahead_of_the_ball_and_of_how_many_are_left(self):
        self.assertEqual(last(game((12, 0, 0, 0)) + [turn(0), stroke(peg=[0]), TIME, more(1)]), [-3])
        self.assertEqual(last([begin(), turn(0), stroke(), TIME, more(1)]), [-3])

    def test_that_ball_is_out(self):
        for half in (0, 1):
            for a in (0, 5):
                calls = game((12, 0, 0, 0), a=a) + [turn(0), stroke(peg=[0])]
                self.assertEqual(last(calls + [more(half)]), [-4])

    def test_not_if_another_ball_of_its_side_is_out(self):
        self.assertEqual(last(game((13, 0, 0, 0), a=5) + [turn(2), stroke(), more(1)]), [4])

    def test_not_so_many_left(self):
        for a, half, wanted in ((0, 1, -5), (0, 0, -5), (1, 0, -5), (1, 1, 0), (2, 0, 0), (2, 1, 1), (40, 0, 38)):
            self.assertEqual(last([begin(0, 0, a, 40), turn(0), stroke(), more(half)]), [wanted])
            self.assertEqual(last([begin(0, 1, 40, a), turn(1), stroke(), more(half)]), [wanted])

    def test_nothing_changes_by_one(self):
        calls = [begin(0, 0, 1, 5), turn(0), stroke(), more(0), more(2), more(1), more(1), stroke(hit=1), stroke()]
        self.assertEqual(play(calls)[3:], [[-5], [-1], [0], [-3], [1, 0, 0], [0, 0, 0]])
        self.assertEqual(play([begin(0, 0, 1, 5), turn(0), stroke(), more(0), turn(1)])[-2:], [[-5], [0]])

    def test_a_refusal_of_others_takes_no_turn_more_away(self):
        wrong = [turn(0), turn(1, 1), turn(9), stroke(), stroke(hit=5), begin(lifts=3), more(7)]
        answered = play(BEHIND_A_TURN + wrong + [more(0)])
        self.assertEqual(answered[3:], [[-4], [-5], [-1], [-3], [-1], [-1], [-1], [3]])


class WhatIsAskedBetween(unittest.TestCase):
    def test_takes_no_turn_more_away(self):
        for asked in ([NOW], [BALLS], [WIRED], [NOW, WIRED, BALLS, WIRED, NOW]):
            for half, wanted in ((0, 3), (1, 4)):
                self.assertEqual(last(BEHIND_A_TURN + asked + [more(half)]), [wanted])

    def test_gives_no_turn_more_either(self):
        for calls in ([begin(0, 0, 5, 7)], BEHIND_A_TURN + [PASS]):
            for asked in ([NOW], [BALLS], [WIRED], [WIRED, NOW, BALLS]):
                self.assertEqual(last(calls + asked + [more(1)]), [-3])

    def test_the_turn_more_is_that_sides(self):
        self.assertEqual(now(BEHIND_A_TURN), [2, 1, 0, 0])
        self.assertEqual(now(BEHIND_A_TURN + [more(1)]), [0, 0, 0, 0, 0, -1, 1, 0, 1, 2, 3])
        self.assertEqual(now(BEHIND_A_TURN + [more(0)]), [0, 0, 0, 0, 0, -1, 0, 0, 1, 2, 3])
        self.assertEqual(now(BEHIND_A_TURN + [more(0), stroke()]), [2, 1, 0, 0])


if __name__ == "__main__":
    unittest.main()
