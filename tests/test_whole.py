"""All nine calls on one list."""

import random
import unittest

from tests.helper import BALLS, NOW, PASS, TIME, WIRED, begin, more, play, stroke, turn

# A game from its beginning to its end, each call with its answer.
GAME = (
    (NOW, [-2]), (BALLS, [-2]), (TIME, [-2]), (WIRED, [-2]), (begin(1, 2), [-1]), (PASS, [-2]),
    (begin(1, 1, 2, 3), [0]), (NOW, [2, 1, 0, 0]), (BALLS, [4, 0, 0, 0, 0, 2, 3]), (more(1), [-3]),
    (turn(1, 1), [-5]), (WIRED, [1]), (turn(1, 2), [-5]), (turn(0, 1), [-4]), (turn(1, 1), [0]),
    (WIRED, [-3]), (NOW, [0, 1, 0, 0, 1, -1, 0, 0, 0, 2, 3]),
    (stroke(hit=2), [1, 0, 0]), (PASS, [-3]), (stroke(hoop=1, ran=[2]), [0, 1, 1]),
    (stroke(hit=2, hoop=1, off=[2]), [1, 1, 2]), (NOW, [1, 1, 0, 0, 1, 2, 0, 3, 0, 3]),
    (stroke(hoop=1), [0, 1, 3]), (stroke(hoop=1), [0, 1, 4]), (stroke(hoop=1), [0, 1, 5]),
    (stroke(hoop=1), [0, 1, 6]), (stroke(hoop=1, hit=3), [1, 1, 7]), (stroke(off=[3], ran=[3]), [2, 1, 8]),
    (NOW, [2, 0, 1, 0]), (BALLS, [4, 0, 7, 1, 1, 2, 3]), (more(2), [-1]), (WIRED, [1]), (more(0), [1]),
    (NOW, [0, 1, 0, 0, 1, -1, 0, 0, 0, 2, 3]), (stroke(hoop=1), [0, 1, 9]), (stroke(), [2, 1, 9]),
    (NOW, [2, 0, 0, 0]), (more(0), [-5]), (more(1), [0]), (stroke(hit=0, hoop=1, ran=[3]), [1, 1, 9]),
    (NOW, [1, 1, 0, 0, 1, 0, 1, 1, 2, 3]), (stroke(hit=0), [0, 1, 9]), (stroke(hit=0), [2, 1, 9]),
    (more(1), [-5]), (BALLS, [4, 0, 8, 1, 1, 2, 0]), (turn(2), [0]), (turn(2), [-3]), (TIME, [0]),
    (stroke(hoop=1, fault=1), [2, 1, 9]), (more(1), [-3]), (TIME, [-3]), (NOW, [2, 1, 0, 2]), (turn(3), [0]),
    (stroke(hit=0, ran=[0, 1, 2]), [1, 3, 10]), (NOW, [1, 1, 0, 2, 3, 0, 0, 1, 1, 2]),
    (stroke(hit=3), [-4]), (stroke(hit=1, ran=[0, 2]), [1, 5, 10]), (stroke(ran=[0, 2]), [0, 7, 10]),
    (stroke(hit=2, ran=[0, 2]), [1, 9, 10]), (stroke(ran=[2], off=[0]), [0, 10, 10]), (stroke(), [2, 10, 10]),
    (NOW, [2, 0, 0, 3]), (BALLS, [4, 4, 9, 6, 1, 2, 0]), (PASS, [2]), (WIRED, [1]), (NOW, [2, 1, 1, 3]),
    (turn(3, 1), [0]), (stroke(hoop=1, ran=[0]), [0, 11, 11]), (stroke(hit=1, ran=[2]), [3, 12, 11]),
    (NOW, [3, 0]), (BALLS, [4, 5, 9, 7, 2, 2, 0]), (stroke(), [-2]), (TIME, [-2]), (WIRED, [-2]), (more(1), [-2]),
    (begin(0, 0, 1, 1), [0]), (NOW, [2, 0, 0, 0]), (BALLS, [4, 0, 0, 0, 0, 1, 1]), (TIME, [0]), (PASS, [2]),
    (PASS, [2]), (NOW, [2, 0, 0, 3]), (turn(0), [0]), (begin(0, 1, 0, 0), [0]), (NOW, [2, 1, 0, 0]),
)


class OneGame(unittest.TestCase):
    def test_call_by_call(self):
        answered = play([call for call, wanted in GAME])
        for number, (call, wanted) in enumerate(GAME):
            self.assertEqual(answered[number], wanted, (number, call))

    def test_three_hundred_calls(self):
        # Nothing is left of a game where a new one begins.
        many = (list(GAME) + list(GAME[6:]) * 3)[:300]
        self.assertEqual(len(many), 300)
        self.assertEqual(play([call for call, wanted in many]), [wanted for call, wanted in many])


class View:
    """What now and balls tell of a game."""

    def __init__(self, told, balls):
        self.told = told
        self.points = balls[1:5]
        self.left = balls[5:]
        self.over = told[0] == 3
        self.begun = told[0] in (0, 1)
        self.time = 0 if self.over else told[3]
        self.side = told[1]
        self.ball = told[4] if self.begun else -1
        self.beside = told[5] if self.begun else -1
        self.half = told[6] if self.begun else 0
        self.strokes = told[7] if self.begun else 0
        self.live = told[8:]

    def in_play(self):
        return [ball for ball in range(4) if self.points[ball] < 13]

    def sums(self):
        return [self.points[0] + self.points[2], self.points[1] + self.points[3]]

    def same(self, other):
        return (self.told, self.points, self.left) == (other.told, other.points, other.left)


class AnyPlay(unittest.TestCase):
    """Whatever is told, of many games made up by a fixed seed, keeps to what the document says of all games."""

    def some(self, dice, balls, chance):
        chosen = [ball for ball in balls if dice.random() < chance]
        dice.shuffle(chosen)
        return chosen

    def a_stroke(self, dice, view):
        others = [ball for ball in view.in_play() if ball != view.ball]
        hoop = int(dice.random() < 0.4 and view.points[view.ball] < 12)
        return stroke(hit=dice.choice(others + [-1]), hoop=hoop, fault=int(dice.random() < 0.02),
                      ran=self.some(dice, others, 0.3), peg=self.some(dice, view.in_play(), 0.2),
                      off=self.some(dice, view.in_play(), 0.05))

    def a_call(self, dice, view):
        chance = dice.random()
        if chance < 0.08:
            return dice.choice([WIRED, PASS, more(1), turn(dice.randint(-1, 4)), stroke(hit=dice.randint(-2, 4))])
        if chance < 0.09:
            return TIME
        if view.begun:
            return self.a_stroke(dice, view)
        if chance < 0.2:
            return dice.choice([WIRED, PASS])
        if chance < 0.4:
            return more(dice.randint(0, 1))
        return turn(view.side + dice.choice([0, 2]), dice.choice([0, 0, 1, 2]))

    def view_behind(self, calls):
        answered = play(calls + [NOW, BALLS])
        return answered[:-2], View(answered[-2], answered[-1])

    def check_view(self, view):
        self.assertTrue(all(0 <= points <= 13 for points in view.points))
        if view.over:
            self.assertEqual(len(view.told), 2)
            return
        self.assertIn(view.side, (0, 1))
        self.assertEqual(len(view.told) > 4, view.begun)
        if view.begun:
            self.assertEqual((view.told[2], view.ball % 2), (0, view.side))
            self.assertEqual(view.told[0], 0 if view.beside == -1 else 1)
            self.assertEqual(view.live, sorted(set(view.live)))
            self.assertTrue(set(view.live) <= set(view.in_play()) - {view.ball, view.beside})
            self.assertLess(view.strokes, 91)

    def check_step(self, before, call, answer, behind):
        if answer[0] < 0:
            self.assertEqual(len(answer), 1)
            self.assertTrue(behind.same(before))
            return
        self.assertTrue(all(old <= new for old, new in zip(before.points, behind.points)))
        if call[0] == 3:
            self.assertEqual(answer, behind.told[:1] + behind.sums())
            self.assertEqual(behind.begun and behind.strokes, behind.begun and before.strokes + 1)
        else:
            self.assertEqual(before.points, behind.points)
        if call[0] in (2, 5):
            self.assertEqual(behind.live, [ball for ball in behind.in_play() if ball != behind.ball])
            self.assertEqual((behind.beside, behind.strokes), (-1, 0))
        if call[0] != 5:
            self.assertEqual(before.left, behind.left)
        if not behind.over and (call == PASS or (call[0] == 3 and not behind.begun)):
            self.assertEqual(behind.side, 1 - before.side)
            self.assertEqual(behind.time, (0, 2, 3, 3)[before.time])

    def play_one(self, dice):
        calls = [begin(dice.randint(0, 1), dice.randint(0, 1), dice.randint(0, 6), dice.randint(0, 6))]
        answered, view = self.view_behind(calls)
        wanted = answered + [view.told]
        asked = calls + [NOW]
        while not view.over and len(asked) < 298:
            before = view
            calls.append(self.a_call(dice, view))
            answered, view = self.view_behind(calls)
            self.check_view(view)
            self.check_step(before, calls[-1], answered[-1], view)
            wanted += [answered[-1], view.told]
            asked += [calls[-1], NOW]
        self.assertEqual(play(asked), wanted)
        return view

    def test_keeps_to_the_document(self):
        dice = random.Random(91)
        ended = [self.play_one(dice) for number in range(60)]
        winners = [view.told[1] for view in ended if view.over]
        self.assertTrue(0 in winners and 1 in winners)


if __name__ == "__main__":
    unittest.main()
