"""What is owed when a turn is over, as turn's how shows it and now tells it."""

import unittest

from tests.helper import PASS, begin, game, hoops, last, more, now, owed, play, stroke, turn

# What the striker's ball had, what it has, what the other ball of its side had; what's owed then.
CASES = (
    (0, 0, 0, 0), (0, 6, 0, 0), (0, 7, 0, 1), (0, 9, 0, 1), (0, 10, 0, 2), (0, 12, 0, 2),
    (5, 6, 0, 0), (6, 6, 0, 0), (6, 7, 0, 1), (6, 9, 0, 1), (6, 10, 0, 2), (6, 12, 0, 2), (6, 13, 0, 2),
    (7, 7, 0, 0), (7, 9, 0, 0), (7, 10, 0, 1), (7, 12, 0, 1), (7, 13, 0, 1),
    (9, 9, 0, 0), (9, 10, 0, 1), (9, 13, 0, 1), (10, 10, 0, 0), (10, 12, 0, 0), (10, 13, 0, 0), (12, 13, 0, 0),
    (0, 10, 6, 2), (0, 10, 7, 1), (0, 10, 8, 1), (0, 10, 12, 1), (0, 10, 13, 1),
    (6, 10, 6, 2), (6, 10, 7, 1), (6, 10, 13, 1), (6, 13, 6, 2), (6, 13, 7, 1),
    (0, 7, 7, 1), (9, 10, 7, 1), (9, 10, 12, 1), (7, 9, 12, 0),
)


def turn_of(ball, before, behind, partner, lifts):
    """Calls up to the end of a turn that brings ball from before to behind."""
    points = [0, 0, 0, 0]
    points[ball] = before
    points[(ball + 2) % 4] = partner
    calls = game(points, lifts, first=ball % 2) + [turn(ball)] + hoops(min(behind, 12) - before)
    return calls + [stroke(peg=[ball] if behind == 13 else [])]


class WhatIsOwed(unittest.TestCase):
    def assert_cases(self, ball, lifts):
        for before, behind, partner, wanted in CASES:
            calls = turn_of(ball, before, behind, partner, lifts)
            with self.subTest(ball=ball, before=before, behind=behind, partner=partner):
                self.assertEqual(owed(calls, 1 - ball % 2), wanted if lifts == 1 else 0)

    def test_with_lifts_in_force(self):
        for ball in range(4):
            self.assert_cases(ball, 1)

    def test_with_lifts_not_in_force(self):
        for ball in range(4):
            self.assert_cases(ball, 0)

    def test_refused_above_it_and_taken_up_to_it(self):
        for behind, wanted in ((6, 0), (7, 1), (10, 2)):
            calls = turn_of(0, 0, behind, 0, 1)
            answers = [last(calls + [turn(1, how)]) for how in (0, 1, 2)]
            self.assertEqual(answers, [[0]] * (wanted + 1) + [[-5]] * (2 - wanted))

    def test_now_tells_it(self):
        for ball in range(4):
            for before, behind, partner, wanted in CASES:
                calls = turn_of(ball, before, behind, partner, 1)
                self.assertEqual(now(calls), [2, 1 - ball % 2, wanted, 0])

    def test_balls_that_others_sent_through_do_not_owe(self):
        calls = game((6, 6, 6, 6), lifts=1) + [turn(0), stroke(hit=1, ran=[1, 2, 3])]
        calls += [stroke(hit=2, ran=[1, 2, 3]), stroke(hit=3, ran=[1, 2, 3]), stroke(ran=[1, 2, 3]), stroke()]
        self.assertEqual(owed(calls, 1), 0)

    def test_a_ball_sent_through_before_its_turn_has_come_from_there(self):
        calls = game((6, 0, 0, 0), lifts=1) + [PASS, turn(1), stroke(ran=[0]), turn(0)]
        self.assertEqual(owed(calls + hoops(2) + [stroke()], 1), 0)
        self.assertEqual(owed(calls + hoops(3) + [stroke()], 1), 1)

    def test_the_other_ball_counts_as_the_turn_began(self):
        calls = game((6, 0, 6, 0), lifts=1) + [turn(0), stroke(hoop=1, ran=[2])] + hoops(3) + [stroke()]
        self.assertEqual(owed(calls, 1), 2)

    def test_balls_of_the_other_side_do_not_matter(self):
        calls = game((0, 12, 0, 12), lifts=1) + [turn(0)] + hoops(10) + [stroke()]
        self.assertEqual(owed(calls, 1), 2)

    def test_a_faulty_stroke_at_the_end(self):
        calls = game((0, 0, 0, 0), lifts=1) + [turn(0)] + hoops(6)
        self.assertEqual(owed(calls + [stroke(hoop=1, fault=1)], 1), 0)
        self.assertEqual(owed(calls + [stroke(hoop=1), stroke(fault=1)], 1), 1)


class WhenItIsGone(unittest.TestCase):
    def setUp(self):
        self.calls = [begin(1, 0, 9, 9), turn(0)] + hoops(10) + [stroke()]
        self.assertEqual(owed(self.calls, 1), 2)

    def test_once_the_turn_has_begun(self):
        for how in (0, 1, 2):
            self.assertEqual(now(self.calls + [turn(1, how)])[:3], [0, 1, 0])
            begun = self.calls + [turn(1, how), stroke()]
            self.assertEqual(owed(begun, 0), 0)
            self.assertEqual(owed(begun + [PASS], 1), 0)

    def test_behind_a_pass(self):
        self.assertEqual(owed(self.calls + [PASS], 0), 0)
        self.assertEqual(owed(self.calls + [PASS, PASS], 1), 0)
        self.assertEqual(owed(self.calls + [PASS, turn(0), stroke()], 1), 0)

    def test_by_a_turn_more(self):
        for half in (0, 1):
            self.assertEqual(now(self.calls + [more(half)])[:3], [0, 0, 0])
            self.assertEqual(owed(self.calls + [more(half), stroke()], 1), 0)
            self.assertEqual(owed(self.calls + [more(half), stroke(hit=1), stroke(fault=1)], 1), 0)

    def test_what_is_owed_is_owed_by_the_last_turn(self):
        seven = [begin(1, 0, 9, 9), turn(0)] + hoops(7) + [stroke()]
        self.assertEqual(owed(seven, 1), 1)
        self.assertEqual(owed(seven + [more(0)] + hoops(2) + [stroke()], 1), 0)
        self.assertEqual(owed(seven + [more(0)] + hoops(3) + [stroke()], 1), 1)
        six = [begin(1, 0, 9, 9), turn(0)] + hoops(6) + [stroke()]
        self.assertEqual(owed(six + [more(0)] + hoops(4) + [stroke()], 1), 2)

    def test_a_half_turn_owes_nothing(self):
        six = [begin(1, 0, 9, 9), turn(0)] + hoops(6) + [stroke()]
        self.assertEqual(owed(six + [more(1)] + [stroke(hit=1, hoop=1), stroke(hoop=1), stroke()], 1), 0)

    def test_not_by_a_refusal(self):
        wrong = [turn(4), turn(0), turn(1, 3), stroke(), more(2), [5, -1], begin(lifts=2)]
        self.assertEqual(owed(self.calls + wrong, 1), 2)

    def test_owed_to_each_side_in_its_turn(self):
        calls = self.calls + [turn(1)] + hoops(7) + [stroke()]
        self.assertEqual(owed(calls, 0), 1)
        self.assertEqual(play(calls + [turn(0, 2), turn(2, 1), stroke(), turn(1, 1)])[-4:], [[-5], [0], [2, 10, 7], [-5]])


if __name__ == "__main__":
    unittest.main()
