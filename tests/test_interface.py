"""The interface: one list in, one list out, and nothing else."""

import contextlib
import io
import unittest

import hoopgame.referee
from tests.helper import BALLS, HIGHEST, LOWEST, NOW, PASS, TIME, WIRED, begin, flat, game, hoops, more, over, stroke
from tests.helper import turn

MANY = flat([
    begin(1, 0, 5, 7), turn(0), stroke(hit=1), stroke(hit=9, ran=[1, 2, 3, 4, 5, 6, 7, 8]), stroke(hoop=1, ran=[2]),
    stroke(), more(1), stroke(off=[0, 3], peg=[2]), PASS, turn(0), turn(0, 1), stroke(fault=1), WIRED, TIME, NOW, BALLS,
    turn(1, 1), stroke(hit=2), NOW,
])


class Lists(unittest.TestCase):
    def test_one_call(self):
        self.assertEqual(hoopgame.referee.answers([1, 0, 0, 0, 0]), [1, 0])
        self.assertEqual(hoopgame.referee.answers([1, 2, 0, 0, 0]), [1, -1])
        self.assertEqual(hoopgame.referee.answers([2, 0, 0]), [1, -2])
        self.assertEqual(hoopgame.referee.answers([3, -1, 0, 0, 0, 0, 0]), [1, -2])
        self.assertEqual(hoopgame.referee.answers([4]), [1, -2])
        self.assertEqual(hoopgame.referee.answers([5, 1]), [1, -2])
        for number in (6, 7, 8, 9):
            self.assertEqual(hoopgame.referee.answers([number]), [1, -2])

    def test_wired_time_now_and_balls_have_no_number_behind_them(self):
        answered = hoopgame.referee.answers([1, 0, 0, 3, 4, 6, 7, 8, 9, 9, 8, 7, 6])
        told = [4, 2, 0, 1, 1, 7, 4, 0, 0, 0, 0, 3, 4, 7, 4, 0, 0, 0, 0, 3, 4, 4, 2, 0, 1, 1]
        self.assertEqual(answered, [1, 0, 1, 1, 1, 0] + told + [1, -3, 1, 1])

    def test_many_calls_with_the_counts_of_their_answers(self):
        wanted = [1, 0, 1, 0, 3, 1, 0, 0, 1, -1, 3, 0, 2, 0, 3, 2, 2, 0, 1, 4, 3, 2, 2, 0, 1, 2, 1, 0, 1, -3, 3, 2, 2, 0]
        wanted += [1, 1, 1, 0, 4, 2, 1, 1, 1, 7, 4, 1, 0, 1, 0, 4, 7, 1, 0, 3, 1, 2, 0]
        wanted += [10, 1, 1, 0, 1, 1, 2, 0, 1, 0, 3]
        self.assertEqual(hoopgame.referee.answers(MANY), wanted)

    def test_rows_are_read_in_their_order(self):
        # Ran: 1; peg: 0; off: 2 and 3. Read otherwise, each would come to another answer.
        calls = flat(game((12, 0, 0, 0))) + [2, 0, 0, 3, 1, 0, 0, 1, 1, 1, 0, 2, 2, 3]
        self.assertEqual(hoopgame.referee.answers(calls)[-4:], [3, 2, 13, 1])
        calls = [1, 0, 0, 0, 0, 2, 0, 0, 3, 1, 0, 0, 0, 0, 0, 3, -1, 0, 0, 2, 2, 3, 0, 1, 1]
        self.assertEqual(hoopgame.referee.answers(calls)[-4:], [3, 2, 1, 1])

    def test_a_refused_stroke_is_read_to_its_end(self):
        rows = [8, 4, 2, 4, 2, 4, 2, 4, 2, 3, 2, 2, 2, 1, 4]
        calls = [1, 0, 0, 0, 0, 2, 0, 0, 3, HIGHEST, LOWEST, 7] + rows + [4]
        self.assertEqual(hoopgame.referee.answers(calls), [1, 0, 1, 0, 1, -1, 1, -3])

    def test_three_hundred_calls(self):
        answered = hoopgame.referee.answers([1, 0, 0, 0, 0] + [4] * 299)
        self.assertEqual(answered, [1, 0] + [1, 2] * 299)

    def test_three_hundred_questions(self):
        answered = hoopgame.referee.answers([1, 0, 1, 40, 0, 2, 3, 0] + [8, 9] * 149)
        self.assertEqual(answered, [1, 0, 1, 0] + [11, 0, 1, 0, 0, 3, -1, 0, 0, 0, 1, 2, 7, 4, 0, 0, 0, 0, 40, 0] * 149)

    def test_the_longest_rows_three_hundred_times(self):
        calls = [3, 4, 2, 2] + ([8] + [LOWEST] * 8) * 3
        self.assertEqual(hoopgame.referee.answers(calls * 300), [1, -1] * 300)

    def test_answers_are_a_list_of_whole_numbers(self):
        calls = MANY + flat(over()) + [4] + flat([begin(0, 1, 0, 3), turn(1)] + hoops(2) + [stroke(), more(0)])
        answered = hoopgame.referee.answers(calls)
        self.assertIs(type(answered), list)
        self.assertEqual({type(number) for number in answered}, {int})


class NothingElse(unittest.TestCase):
    def test_what_is_handed_in_is_not_changed(self):
        handed = list(MANY)
        hoopgame.referee.answers(handed)
        self.assertEqual(handed, MANY)

    def test_not_for_a_while_either(self):
        class Watched(list):
            def refuse(self, *args, **kwargs):
                raise AssertionError("changed")

            append = extend = insert = pop = remove = clear = sort = reverse = refuse
            __setitem__ = __delitem__ = __iadd__ = __imul__ = refuse

        self.assertEqual(hoopgame.referee.answers(Watched(MANY)), hoopgame.referee.answers(MANY))

    def test_the_same_answer_when_called_twice(self):
        first = hoopgame.referee.answers(MANY)
        self.assertEqual(hoopgame.referee.answers(MANY), first)

    def test_nothing_is_kept_from_one_time_to_the_next(self):
        hoopgame.referee.answers(MANY)
        self.assertEqual(hoopgame.referee.answers([2, 0, 0]), [1, -2])
        hoopgame.referee.answers(flat(over()))
        for number in (4, 6, 7, 8, 9):
            self.assertEqual(hoopgame.referee.answers([number]), [1, -2])

    def test_an_answer_is_the_callers_own(self):
        first = hoopgame.referee.answers(MANY)
        kept = list(first)
        first.clear()
        self.assertEqual(hoopgame.referee.answers(MANY), kept)

    def test_nothing_is_printed(self):
        out, err = io.StringIO(), io.StringIO()
        with contextlib.redirect_stdout(out), contextlib.redirect_stderr(err):
            hoopgame.referee.answers(MANY)
        self.assertEqual((out.getvalue(), err.getvalue()), ("", ""))


if __name__ == "__main__":
    unittest.main()
