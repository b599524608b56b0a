"""Point 1: begin."""

import unittest

from tests.helper import BALLS, HIGHEST, LOWEST, NOW, PASS, TIME, WIRED, begin, game, hoops, last, more, over, owed
from tests.helper import play, stroke, timed, turn


class Begin(unittest.TestCase):
    def test_answers_0_over_the_whole_range(self):
        for lifts in (0, 1):
            for first in (0, 1):
                for a, b in ((0, 0), (40, 0), (0, 40), (40, 40), (17, 3)):
                    self.assertEqual(play([begin(lifts, first, a, b)]), [[0]])

    def test_refuses_each_value_just_outside(self):
        for wrong in (-1, 2, LOWEST, HIGHEST):
            self.assertEqual(play([begin(lifts=wrong)]), [[-1]])
            self.assertEqual(play([begin(first=wrong)]), [[-1]])
        for wrong in (-1, 41, LOWEST, HIGHEST):
            self.assertEqual(play([begin(a=wrong)]), [[-1]])
            self.assertEqual(play([begin(b=wrong)]), [[-1]])

    def test_first_is_the_side_that_begins(self):
        self.assertEqual(last([begin(first=0), turn(0)]), [0])
        self.assertEqual(last([begin(first=0), turn(2)]), [0])
        self.assertEqual(last([begin(first=0), turn(1)]), [-4])
        self.assertEqual(last([begin(first=1), turn(1)]), [0])
        self.assertEqual(last([begin(first=1), turn(3)]), [0])
        self.assertEqual(last([begin(first=1), turn(0)]), [-4])

    def test_a_is_of_side_0_and_b_of_side_1(self):
        self.assertEqual(last([begin(0, 0, 7, 30), turn(0), stroke(), more(1)]), [6])
        self.assertEqual(last([begin(0, 1, 7, 30), turn(1), stroke(), more(1)]), [29])

    def test_a_game_has_forty_half_turns_more_if_told_so(self):
        calls = [begin(0, 0, 40, 0), turn(0), stroke()]
        answered = play(calls + [more(1), stroke()] * 40 + [more(1)])
        self.assertEqual([answer[0] for answer in answered[3::2]][:40], list(range(39, -1, -1)))
        self.assertEqual(answered[-1], [-5])

    def test_nothing_is_owed_at_the_beginning(self):
        for lifts in (0, 1):
            self.assertEqual(owed([begin(lifts, 0)], 0), 0)
            self.assertEqual(owed([begin(lifts, 1)], 1), 0)


class NewGame(unittest.TestCase):
    def test_a_game_may_begin_in_the_midst_of_a_turn(self):
        calls = [begin(), turn(0)] + hoops(3) + [stroke(hit=1)]
        answered = play(calls + [begin(0, 1), turn(1), stroke(hoop=1)])
        self.assertEqual(answered[-3:], [[0], [0], [0, 0, 1]])

    def test_a_game_may_begin_behind_one_that_is_over(self):
        self.assertEqual(play(over() + [begin(), turn(2), stroke(hoop=1)])[-3:], [[0], [0], [0, 1, 0]])

    def test_all_is_new_wherever_it_begins(self):
        places = (
            [],
            game((5, 6, 7, 8), lifts=1, a=9, b=9),
            [begin(1, 0, 9, 9), turn(0)] + hoops(3) + [stroke(hit=1)],
            [begin(1, 0, 9, 9), turn(0), stroke(), more(1), stroke(hit=3)],
            [begin(1, 0, 9, 9), turn(0)] + hoops(10) + [stroke(), WIRED],
            [begin(1, 0, 9, 9), WIRED],
            timed(time=1),
            timed(time=2) + [turn(0), stroke(hit=1)],
            timed(time=3),
            over(),
            timed((0, 2, 0, 0), time=2) + [PASS],
        )
        for calls in places:
            for first in (0, 1):
                answered = play(calls + [begin(0, first, 3, 4), NOW, BALLS, more(1), TIME, NOW])
                wanted = [[0], [2, first, 0, 0], [4, 0, 0, 0, 0, 3, 4], [-3], [0], [2, first, 0, 1]]
                self.assertEqual(answered[len(calls):], wanted)

    def test_time_is_not_called_in_it(self):
        for time in (1, 2, 3):
            calls = timed(time=time) + [begin(0, 0, 5, 5), turn(0), stroke(hoop=1), stroke(), more(1), stroke()]
            self.assertEqual(play(calls + [PASS, PASS, PASS, NOW])[-5:], [[2, 1, 0], [2], [2], [2], [2, 0, 0, 0]])

    def test_lifts_are_told_anew(self):
        seven = [turn(0)] + hoops(7) + [stroke()]
        self.assertEqual(owed([begin(1)] + seven + [begin(0)] + seven, 1), 0)
        self.assertEqual(owed([begin(0)] + seven + [begin(1)] + seven, 1), 1)

    def test_what_was_owed_is_gone(self):
        calls = [begin(lifts=1), turn(0)] + hoops(10) + [stroke()]
        self.assertEqual(owed(calls, 1), 2)
        self.assertEqual(owed(calls + [begin(1, 1)], 1), 0)

    def test_no_turn_more_behind_an_older_game(self):
        calls = [begin(0, 0, 5, 5), turn(0), stroke(), begin(0, 0, 5, 5), more(1)]
        self.assertEqual(last(calls), [-3])

    def test_half_turns_more_are_told_anew(self):
        calls = [begin(0, 0, 5, 5), turn(0), stroke(), more(0), stroke(), begin(0, 0, 1, 0), turn(0), stroke()]
        self.assertEqual(play(calls + [more(0), more(1)])[-2:], [[-5], [0]])

    def test_a_refused_begin_leaves_no_game_where_none_was(self):
        self.assertEqual(play([begin(lifts=2), turn(0), PASS]), [[-1], [-2], [-2]])

    def test_a_refused_begin_leaves_the_game_as_it_was(self):
        calls = game((0, 3, 0, 0)) + [turn(0), stroke(hit=1), begin(b=41), stroke(hit=3), begin(first=2), stroke()]
        self.assertEqual(play(calls)[-4:], [[-1], [1, 0, 3], [-1], [0, 0, 3]])

    def test_a_refused_begin_leaves_a_game_over(self):
        self.assertEqual(play(over() + [begin(a=-1), turn(1), NOW])[-3:], [[-1], [-2], [3, 0]])

    def test_a_refused_begin_leaves_time_called_and_what_is_owed(self):
        self.assertEqual(play(timed(time=2) + [WIRED, begin(first=-1), NOW])[-2:], [[-1], [2, 0, 1, 2]])

    def test_a_refused_begin_leaves_a_turn_more_to_be_taken(self):
        self.assertEqual(last([begin(0, 0, 5, 0), turn(0), stroke(), begin(a=-1), more(0)]), [3])


if __name__ == "__main__":
    unittest.main()
