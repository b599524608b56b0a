"""Point 5: wired."""

import unittest

from tests.helper import BALLS, NOW, PASS, TIME, WIRED, balls, begin, game, hoops, last, more, now, owed, play, stroke
from tests.helper import timed, turn


def behind_hoops(how_many, lifts):
    """Calls up to the end of a turn of ball 0 with so many hoops."""
    return [begin(lifts, 0, 9, 9), turn(0)] + hoops(how_many) + [stroke()]


class WhatItAnswers(unittest.TestCase):
    def test_with_lifts_in_force(self):
        for how_many, owed_before, wanted in ((0, 0, 1), (6, 0, 1), (7, 1, 1), (9, 1, 1), (10, 2, 2), (12, 2, 2)):
            calls = behind_hoops(how_many, 1)
            self.assertEqual(now(calls), [2, 1, owed_before, 0])
            self.assertEqual(play(calls + [WIRED, NOW])[-2:], [[wanted], [2, 1, wanted, 0]])

    def test_with_lifts_not_in_force(self):
        for how_many in (0, 6, 7, 9, 10, 12):
            calls = behind_hoops(how_many, 0)
            self.assertEqual(now(calls), [2, 1, 0, 0])
            self.assertEqual(play(calls + [WIRED, NOW])[-2:], [[1], [2, 1, 1, 0]])

    def test_twice_one_behind_the_other(self):
        for lifts in (0, 1):
            for how_many in (0, 7, 10):
                wanted = [2] if lifts == 1 and how_many == 10 else [1]
                calls = behind_hoops(how_many, lifts) + [WIRED, WIRED, NOW, BALLS, WIRED]
                answered = play(calls)
                self.assertEqual([answered[-5], answered[-4], answered[-1]], [wanted] * 3)

    def test_ahead_of_the_first_turn(self):
        for lifts in (0, 1):
            for first in (0, 1):
                self.assertEqual(play([begin(lifts, first), WIRED, NOW])[1:], [[1], [2, first, 1, 0]])

    def test_behind_a_pass(self):
        self.assertEqual(play([begin(1), PASS, WIRED, NOW])[2:], [[1], [2, 1, 1, 0]])
        self.assertEqual(play(behind_hoops(10, 1) + [PASS, WIRED, NOW])[-2:], [[1], [2, 0, 1, 0]])

    def test_once_time_is_called(self):
        for time in (1, 2, 3):
            for first in (0, 1):
                calls = timed(time=time, first=first)
                self.assertEqual(play(calls + [WIRED, NOW, turn(first, 1)])[-3:], [[1], [2, first, 1, time], [0]])

    def test_called_ahead_of_time(self):
        self.assertEqual(play([begin(), WIRED, TIME, NOW, turn(0, 1)])[1:], [[1], [0], [2, 0, 1, 1], [0]])

    def test_no_points_and_no_half_turns_change(self):
        calls = game((1, 2, 3, 4), a=5, b=6)
        self.assertEqual(balls(calls + [WIRED]), [4, 1, 2, 3, 4, 5, 6])


class HowATurnMayBegin(unittest.TestCase):
    def test_lifted_but_not_at_another_balls_side(self):
        for lifts in (0, 1):
            for first in (0, 1):
                calls = [begin(lifts, first), WIRED]
                for ball in (first, first + 2):
                    self.assertEqual([last(calls + [turn(ball, how)]) for how in (0, 1, 2)], [[0], [0], [-5]])

    def test_no_less_than_was_owed(self):
        self.assertEqual(owed(behind_hoops(7, 1) + [WIRED], 1), 1)
        self.assertEqual(owed(behind_hoops(10, 1) + [WIRED], 1), 2)
        self.assertEqual(owed(behind_hoops(10, 0) + [WIRED], 1), 1)

    def test_a_refused_turn_leaves_it(self):
        answered = play([begin(), WIRED, turn(0, 2), turn(1, 1), turn(0, 3), NOW, turn(0, 1)])
        self.assertEqual(answered[2:], [[-5], [-4], [-1], [2, 0, 1, 0], [0]])

    def test_the_turn_begins_as_any_other(self):
        for how in (0, 1):
            self.assertEqual(now([begin(), WIRED, turn(2, how)]), [0, 0, 0, 0, 2, -1, 0, 0, 0, 1, 3])


class WhenItIsGone(unittest.TestCase):
    def test_once_the_turn_has_begun(self):
        for how in (0, 1):
            calls = [begin(0, 0, 9, 9), WIRED, turn(0, how)]
            self.assertEqual(now(calls), [0, 0, 0, 0, 0, -1, 0, 0, 1, 2, 3])
            self.assertEqual(now(calls + [stroke()]), [2, 1, 0, 0])
            self.assertEqual(last(calls + [stroke(), turn(1, 1)]), [-5])
            self.assertEqual(now(calls + [stroke(), PASS]), [2, 0, 0, 0])
            self.assertEqual(now(calls + [stroke(), more(1), stroke()]), [2, 1, 0, 0])

    def test_behind_a_pass(self):
        for lifts in (0, 1):
            calls = behind_hoops(10, lifts) + [WIRED, PASS]
            self.assertEqual(now(calls), [2, 0, 0, 0])
            self.assertEqual(last(calls + [turn(0, 1)]), [-5])
            self.assertEqual(now(calls + [PASS]), [2, 1, 0, 0])

    def test_by_a_turn_more(self):
        for lifts in (0, 1):
            for half in (0, 1):
                calls = behind_hoops(0, lifts) + [WIRED, more(half)]
                self.assertEqual(now(calls), [0, 0, 0, 0, 0, -1, half, 0, 1, 2, 3])
                self.assertEqual(now(calls + [stroke()]), [2, 1, 0, 0])
                self.assertEqual(last(calls + [stroke(), turn(1, 1)]), [-5])
                self.assertEqual(play(calls + [stroke(), WIRED, NOW])[-2:], [[1], [2, 1, 1, 0]])

    def test_what_a_turn_more_owes_is_owed_behind_it(self):
        calls = behind_hoops(0, 1) + [WIRED, more(0)]
        for how_many, wanted in ((6, 0), (7, 1), (10, 2)):
            self.assertEqual(now(calls + hoops(how_many) + [stroke()]), [2, 1, wanted, 0])

    def test_by_a_new_game(self):
        self.assertEqual(now([begin(), WIRED, begin()]), [2, 0, 0, 0])


class TurnsMore(unittest.TestCase):
    def test_one_may_still_be_taken(self):
        calls = behind_hoops(0, 0)
        self.assertEqual(play(calls + [WIRED, more(1)])[-2:], [[1], [8]])
        self.assertEqual(play(calls + [WIRED, WIRED, more(0)])[-3:], [[1], [1], [7]])
        self.assertEqual(play(behind_hoops(10, 1) + [WIRED, more(0)])[-2:], [[2], [7]])

    def test_none_where_none_might_be_taken_before(self):
        self.assertEqual(last([begin(0, 0, 9, 9), WIRED, more(1)]), [-3])
        self.assertEqual(last(behind_hoops(0, 0) + [PASS, WIRED, more(1)]), [-3])
        self.assertEqual(last(behind_hoops(0, 0) + [WIRED, PASS, more(1)]), [-3])


class Refusals(unittest.TestCase):
    def test_a_turn_has_begun(self):
        for calls in (
            [begin(), turn(0)],
            [begin(1), turn(0)],
            [begin(), WIRED, turn(0, 1)],
            [begin(), turn(0), stroke(hit=1)],
            [begin(), turn(0), stroke(hoop=1)],
            behind_hoops(0, 0) + [more(0)],
            behind_hoops(0, 0) + [more(1), stroke(hit=2)],
            timed() + [turn(0)],
        ):
            before = now(calls)
            self.assertEqual(play(calls + [WIRED, NOW])[-2:], [[-3], before])

    def test_nothing_is_owed_by_one(self):
        self.assertEqual(now([begin(), turn(0), WIRED, stroke()]), [2, 1, 0, 0])
        self.assertEqual(now(behind_hoops(0, 0) + [more(1), WIRED, stroke()]), [2, 1, 0, 0])


if __name__ == "__main__":
    unittest.main()
