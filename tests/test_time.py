"""Point 5: time; and the end of a game once it's called."""

import unittest

from tests.helper import BALLS, NOW, PASS, TIME, WIRED, balls, begin, game, hoops, last, more, now, play, stroke, timed
from tests.helper import turn


class Called(unittest.TestCase):
    def test_ahead_of_a_turn(self):
        for first in (0, 1):
            answered = play([begin(first=first), NOW, TIME, NOW])
            self.assertEqual(answered[1:], [[2, first, 0, 0], [0], [2, first, 0, 1]])

    def test_within_a_turn(self):
        calls = [begin(0, 0, 9, 9), turn(0), stroke(hit=1)]
        self.assertEqual(play(calls + [TIME, NOW])[-2:], [[0], [1, 0, 0, 1, 0, 1, 0, 1, 2, 3]])
        calls = [begin(0, 0, 9, 9), turn(0), stroke(), more(1)]
        self.assertEqual(play(calls + [TIME, NOW])[-2:], [[0], [0, 0, 0, 1, 0, -1, 1, 0, 1, 2, 3]])

    def test_behind_a_turns_end(self):
        calls = [begin(1, 0, 9, 9), turn(0)] + hoops(10) + [stroke()]
        self.assertEqual(play(calls + [TIME, NOW])[-2:], [[0], [2, 1, 2, 1]])
        self.assertEqual(play(calls + [PASS, TIME, NOW])[-2:], [[0], [2, 0, 0, 1]])

    def test_nothing_else_changes(self):
        calls = game((1, 2, 3, 4), a=5, b=6) + [turn(0), stroke(hit=1)]
        self.assertEqual(balls(calls + [TIME]), balls(calls))
        answered = play(calls + [TIME, stroke(hit=2), stroke(hit=1), stroke(hoop=1), stroke(hit=1)])
        self.assertEqual(answered[-4:], [[1, 4, 6], [0, 4, 6], [0, 5, 6], [1, 5, 6]])

    def test_what_is_owed_is_owed_then_too(self):
        seven = [turn(0)] + hoops(7) + [stroke()]
        self.assertEqual(now([begin(1), TIME] + seven), [2, 1, 1, 2])
        self.assertEqual(now([begin(1), turn(0), TIME] + hoops(10) + [stroke()]), [2, 1, 2, 2])
        self.assertEqual(last([begin(1), TIME] + seven + [turn(1, 1)]), [0])


class Refusals(unittest.TestCase):
    def test_called_already(self):
        for calls in (
            timed(time=1),
            timed(time=1) + [turn(0)],
            timed(time=2),
            timed(time=2) + [turn(0), stroke(hit=1)],
            timed(time=3),
            timed(time=3) + [turn(2), stroke(hit=1)],
            timed(time=3) + [PASS],
        ):
            before = now(calls)
            self.assertEqual(play(calls + [TIME, NOW, TIME])[-3:], [[-3], before, [-3]])

    def test_calling_it_again_puts_nothing_off(self):
        calls = game((1, 0, 0, 0)) + [TIME, TIME, PASS, TIME, turn(1), TIME, stroke()]
        self.assertEqual(play(calls)[-7:], [[0], [-3], [2], [-3], [0], [-3], [3, 1, 0]])


class NoTurnsMore(unittest.TestCase):
    def test_behind_the_turn_ahead_of_it(self):
        calls = [begin(0, 0, 9, 9), turn(0), stroke(), TIME]
        self.assertEqual(play(calls + [more(1), more(0), NOW, BALLS])[-4:],
                         [[-3], [-3], [2, 1, 0, 1], [4, 0, 0, 0, 0, 9, 9]])

    def test_behind_any_turn_then(self):
        for time in (1, 2, 3):
            for first in (0, 1):
                # Points as many for both: the game goes on behind the last turn.
                calls = timed((1, 1, 0, 0), time, first) + [turn(first), stroke()]
                self.assertEqual(play(calls + [more(1), more(0)])[-3:], [[2, 1, 1], [-3], [-3]])

    def test_behind_the_turn_within_which_it_was_called(self):
        calls = [begin(0, 0, 9, 9), turn(0), TIME, stroke(), more(1)]
        self.assertEqual(play(calls)[-2:], [[2, 0, 0], [-3]])
        calls = [begin(0, 0, 9, 9), turn(0), stroke(), more(0), TIME, stroke(), more(1)]
        self.assertEqual(play(calls)[-2:], [[2, 0, 0], [-3]])


class TurnByTurn(unittest.TestCase):
    def times(self, calls, between):
        """What now tells of the time, behind calls and behind each of the groups of between."""
        told = [now(calls)[3]]
        for group in between:
            calls = calls + group
            told.append(now(calls)[3])
        return told

    def test_by_turns(self):
        a_turn = [[turn(0)], [stroke(hit=1)], [stroke()], [stroke()]]
        other = [[turn(1)], [stroke(hit=0)], [stroke(fault=1)]]
        self.assertEqual(self.times([begin(), TIME], a_turn + other + a_turn + other),
                         [1, 1, 1, 1, 2, 2, 2, 3, 3, 3, 3, 3, 3, 3, 3])

    def test_by_passes(self):
        self.assertEqual(self.times([begin()], [[PASS], [PASS], [TIME], [PASS], [PASS], [PASS], [PASS]]),
                         [0, 0, 0, 1, 2, 3, 3, 3])

    def test_by_both(self):
        self.assertEqual(self.times([begin(), TIME], [[PASS], [turn(1)], [stroke()], [PASS]]), [1, 2, 2, 3, 3])
        self.assertEqual(self.times([begin(), TIME], [[turn(2)], [stroke()], [PASS], [turn(0)]]), [1, 1, 2, 3, 3])

    def test_called_within_a_turn(self):
        self.assertEqual(self.times([begin(), turn(0), stroke(hit=1), TIME], [[stroke(fault=1)], [PASS]]), [1, 2, 3])

    def test_called_within_a_turn_more(self):
        calls = [begin(0, 0, 9, 9), turn(0), stroke(), more(0), TIME]
        self.assertEqual(now(calls + [stroke()]), [2, 1, 0, 2])
        self.assertEqual(now(calls + [stroke(), turn(3), stroke()]), [2, 0, 0, 3])

    def test_called_behind_a_turn_the_next_is_the_first(self):
        calls = [begin(), turn(0), stroke(), TIME]
        self.assertEqual(now(calls + [turn(1), stroke()]), [2, 0, 0, 2])
        self.assertEqual(now(calls + [turn(1), stroke(), PASS]), [2, 1, 0, 3])

    def test_no_refusal_and_no_question_counts_as_a_turn(self):
        others = [WIRED, NOW, BALLS, TIME, more(1), turn(4), stroke()]
        self.assertEqual(self.times([begin(), TIME], [others, [PASS], others, [PASS], others]), [1, 1, 2, 2, 3, 3])


class MorePoints(unittest.TestCase):
    def assert_won(self, calls, answer, side):
        answered = play(calls + [NOW, turn(0), turn(1), stroke(), PASS, more(1), WIRED, TIME, NOW])
        self.assertEqual(answered[len(calls) - 1:], [answer, [3, side]] + [[-2]] * 7 + [[3, side]])

    def test_by_the_end_of_the_last_turn(self):
        for first in (0, 1):
            calls = timed((3, 1, 0, 0), first=first)
            self.assert_won(calls + [turn(first), stroke(), turn(3 - first), stroke()], [3, 3, 1], 0)
            self.assert_won(calls + [PASS, turn(1 - first), stroke(fault=1)], [3, 3, 1], 0)
            calls = timed((0, 0, 1, 4), first=first)
            self.assert_won(calls + [turn(first), stroke(), turn(3 - first), stroke()], [3, 1, 4], 1)
            self.assert_won(calls + [PASS, turn(1 - first), stroke(fault=1)], [3, 1, 4], 1)

    def test_by_a_pass(self):
        for first in (0, 1):
            self.assert_won(timed((3, 1, 0, 0), first=first) + [PASS, PASS], [3], 0)
            self.assert_won(timed((0, 1, 0, 0), first=first) + [PASS, PASS], [3], 1)
            self.assert_won(timed((3, 1, 0, 0), first=first) + [turn(first), stroke(), PASS], [3], 0)
            self.assert_won(timed((0, 1, 0, 0), first=first) + [turn(first), stroke(), PASS], [3], 1)

    def test_a_sides_points_are_those_of_both_its_balls(self):
        self.assert_won(timed((3, 2, 0, 2)) + [PASS, PASS], [3], 1)
        self.assert_won(timed((2, 3, 2, 0)) + [PASS, PASS], [3], 0)

    def test_the_last_turn_may_turn_it(self):
        calls = timed((1, 0, 0, 0)) + [turn(0), stroke(), turn(1), stroke(hoop=1), stroke(hoop=1)]
        self.assertEqual(play(calls)[-2:], [[0, 1, 1], [0, 1, 2]])
        self.assert_won(calls + [stroke()], [3, 1, 2], 1)

    def test_the_last_turn_goes_on_to_its_end(self):
        calls = timed((0, 1, 0, 0), time=2, first=1) + [turn(1), stroke(hoop=1), stroke(hit=0), stroke(), NOW]
        self.assertEqual(play(calls)[-4:], [[0, 0, 2], [1, 0, 2], [0, 0, 2], [0, 1, 0, 2, 1, -1, 0, 3, 2, 3]])
        self.assert_won(calls + [stroke(ran=[0])], [3, 1, 2], 1)

    def test_the_turn_within_which_it_was_called_is_the_first(self):
        calls = [begin(), turn(0), stroke(hoop=1), TIME, stroke(hoop=1), stroke()]
        self.assertEqual(play(calls)[-2:], [[0, 2, 0], [2, 2, 0]])
        self.assert_won(calls + [turn(3), stroke()], [3, 2, 0], 0)
        self.assert_won(calls + [PASS], [3], 0)

    def test_not_behind_the_first_turn(self):
        self.assertEqual(now(timed((5, 0, 0, 0)) + [PASS]), [2, 1, 0, 2])
        self.assertEqual(last(timed((5, 0, 0, 0)) + [turn(0), stroke(hoop=1), stroke()]), [2, 6, 0])


class AsManyForBoth(unittest.TestCase):
    def assert_won(self, calls, answer, side):
        self.assertEqual(play(calls + [NOW, PASS, turn(0), NOW])[-5:], [answer, [3, side], [-2], [-2], [3, side]])

    def test_turns_go_on(self):
        for first in (0, 1):
            calls = timed((2, 1, 0, 1), first=first)
            answered = play(calls + [PASS, PASS, PASS, NOW, turn(1 - first), stroke(), PASS, turn(1 - first), NOW])
            self.assertEqual(answered[len(calls):len(calls) + 4], [[2], [2], [2], [2, 1 - first, 0, 3]])
            self.assertEqual(answered[-5:-1], [[0], [2, 2, 2], [2], [0]])
            self.assertEqual(answered[-1][:5], [0, 1 - first, 0, 3, 1 - first])

    def test_by_the_end_of_a_turn(self):
        calls = timed((0, 0, 0, 0), time=2) + [turn(0), stroke()]
        self.assertEqual(play(calls + [NOW])[-2:], [[2, 0, 0], [2, 1, 0, 3]])

    def test_the_first_stroke_behind_which_one_has_more(self):
        for ball in range(4):
            calls = timed((2, 1, 0, 1), time=3, first=ball % 2) + [turn(ball), stroke(hit=(ball + 1) % 4), stroke()]
            self.assertEqual(play(calls)[-2:], [[1, 2, 2], [0, 2, 2]])
            points = [3, 2] if ball % 2 == 0 else [2, 3]
            self.assert_won(calls + [stroke(hoop=1)], [3] + points, ball % 2)

    def test_by_a_ball_of_the_other_side_told_in_ran(self):
        for striker in range(4):
            for ran in [ball for ball in range(4) if ball % 2 != striker % 2]:
                calls = timed((1, 1, 0, 0), time=3, first=striker % 2) + [turn(striker)]
                points = [2, 1] if ran % 2 == 0 else [1, 2]
                self.assert_won(calls + [stroke(ran=[ran])], [3] + points, ran % 2)
                self.assert_won(calls + [stroke(hit=ran, ran=[ran])], [3] + points, ran % 2)

    def test_by_the_other_ball_of_its_own_side_told_in_ran(self):
        self.assert_won(timed((1, 1, 0, 0), time=3) + [turn(0), stroke(ran=[2])], [3, 2, 1], 0)

    def test_by_the_peg(self):
        self.assert_won(timed((12, 12, 0, 0), time=3) + [turn(0), stroke(peg=[0])], [3, 13, 12], 0)
        self.assert_won(timed((12, 12, 0, 0), time=3) + [turn(0), stroke(hit=1, peg=[1])], [3, 12, 13], 1)

    def test_behind_the_stroke_not_within_it(self):
        calls = timed((2, 2, 0, 0), time=3) + [turn(0), stroke(hoop=1, ran=[1])]
        self.assertEqual(last(calls), [0, 3, 3])
        self.assertEqual(now(calls), [0, 0, 0, 3, 0, -1, 0, 1, 1, 2, 3])
        self.assert_won(calls + [stroke(hit=1, ran=[3])], [3, 3, 4], 1)

    def test_a_faulty_stroke_counts_nothing(self):
        calls = timed((2, 2, 0, 0), time=3) + [turn(0), stroke(hoop=1, fault=1)]
        self.assertEqual(play(calls + [NOW])[-2:], [[2, 2, 2], [2, 1, 0, 3]])

    def test_not_behind_a_stroke_of_the_two_turns_before(self):
        calls = timed() + [turn(0), stroke(hoop=1)]
        self.assertEqual(last(calls), [0, 1, 0])
        calls += [stroke(), turn(1), stroke(hit=0)]
        self.assertEqual(last(calls), [1, 1, 0])
        self.assertEqual(last(calls + [stroke(hoop=1, ran=[3])]), [0, 1, 2])


if __name__ == "__main__":
    unittest.main()
