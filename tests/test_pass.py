"""Point 5: pass."""

import unittest

from tests.helper import PASS, begin, game, last, more, over, play, stroke, turn


class Pass(unittest.TestCase):
    def test_answers_2_alone(self):
        self.assertEqual(play([begin(), PASS, PASS, PASS]), [[0], [2], [2], [2]])

    def test_that_was_the_sides_turn(self):
        self.assertEqual(play([begin(), PASS, turn(0), turn(1)])[-2:], [[-4], [0]])
        self.assertEqual(play([begin(first=1), PASS, turn(1), turn(2)])[-2:], [[-4], [0]])
        self.assertEqual(play([begin(), turn(0), stroke(), PASS, turn(1), turn(2)])[-2:], [[-4], [0]])

    def test_no_points_change(self):
        calls = game((5, 6, 7, 8)) + [PASS, PASS, turn(0), stroke()]
        self.assertEqual(last(calls), [2, 12, 14])

    def test_no_turn_more_behind_it(self):
        self.assertEqual(last([begin(0, 0, 9, 9), PASS, more(1)]), [-3])
        self.assertEqual(last([begin(0, 0, 9, 9), turn(0), stroke(), PASS, more(1)]), [-3])
        self.assertEqual(last([begin(0, 0, 9, 9), turn(0), stroke(), PASS, PASS, more(0)]), [-3])


class Refusals(unittest.TestCase):
    def test_no_game_and_a_game_that_is_over(self):
        self.assertEqual(play([PASS]), [[-2]])
        self.assertEqual(last(over() + [PASS]), [-2])

    def test_a_turn_has_begun(self):
        self.assertEqual(last([begin(), turn(0), PASS]), [-3])
        self.assertEqual(last([begin(), turn(0), stroke(hit=1), PASS]), [-3])
        self.assertEqual(last([begin(0, 0, 9, 9), turn(0), stroke(), more(1), PASS]), [-3])

    def test_nothing_changes_by_one(self):
        answered = play([begin(), turn(0), stroke(hit=1), PASS, stroke(), PASS, stroke(hit=2), PASS, stroke(fault=1)])
        self.assertEqual(answered[3:], [[-3], [0, 0, 0], [-3], [1, 0, 0], [-3], [2, 0, 0]])
        self.assertEqual(play([PASS, begin(), turn(0)]), [[-2], [0], [0]])


if __name__ == "__main__":
    unittest.main()
