"""The calls on one game: how they are read, which are refused, and what they answer."""

from hoopgame.rules import ALL_HOOPS, BALLS, GAME_OVER, NO_BALL, TIME_NOT_CALLED, Game, Stroke
from hoopgame.rules import begin_turn, call_time, find_wired, pass_turn, play_stroke, price_of, side_of
from hoopgame.rules import take_turn_more

MOST_HALF_TURNS = 40
BALLS_TOLD = 4


class Referee:
    """What the calls of one list are made on; it has no game till one begins."""

    def __init__(self):
        self.game = None


class Reader:
    """Goes through a list of calls, number by number, without changing it."""

    def __init__(self, calls):
        self.calls = calls
        self.place = 0

    def at_end(self):
        return self.place == len(self.calls)

    def number(self):
        self.place += 1
        return self.calls[self.place - 1]

    def row(self):
        size = self.number()
        self.place += size
        return self.calls[self.place - size:self.place]

    def stroke(self):
        hit = self.number()
        hoop = self.number()
        fault = self.number()
        ran = self.row()
        peg = self.row()
        off = self.row()
        return Stroke(hit, hoop, fault, ran, peg, off)


def no_game_goes_on(game):
    return game is None or game.state() == GAME_OVER


def refusal_of_begin(lifts, first, half_turns):
    if lifts not in (0, 1) or first not in (0, 1):
        return -1
    return 0 if all([0 <= number <= MOST_HALF_TURNS for number in half_turns]) else -1


def refusal_of_turn(game, ball, how):
    if ball not in BALLS or how not in (0, 1, 2):
        return -1
    if no_game_goes_on(game):
        return -2
    if game.turn is not None:
        return -3
    if side_of(ball) != game.side or game.is_out(ball):
        return -4
    return -5 if how > game.owed else 0


def refusal_of_stroke(game, stroke):
    if not is_in_range(stroke):
        return -1
    if no_game_goes_on(game):
        return -2
    if game.turn is None:
        return -3
    return 0 if can_have_been(game, stroke) else -4


def is_in_range(stroke):
    if stroke.hit != NO_BALL and stroke.hit not in BALLS:
        return False
    if stroke.hoop not in (0, 1) or stroke.fault not in (0, 1):
        return False
    return all([ball in BALLS for ball in stroke.ran + stroke.peg + stroke.off])


def can_have_been(game, stroke):
    striker = game.turn.ball
    if stroke.hit == striker or striker in stroke.ran:
        return False
    if stroke.hit != NO_BALL and game.is_out(stroke.hit):
        return False
    if stroke.hoop == 1 and game.points[striker] == ALL_HOOPS:
        return False
    return all([can_be_told(game, balls) for balls in (stroke.ran, stroke.peg, stroke.off)])


def can_be_told(game, balls):
    """Whether a list has no ball twice, and none that's out."""
    return len(set(balls)) == len(balls) and not any([game.is_out(ball) for ball in balls])


def refusal_between_turns(game):
    """For pass and wired alike: both are of the side that's to begin."""
    if no_game_goes_on(game):
        return -2
    return 0 if game.turn is None else -3


def refusal_of_time(game):
    if no_game_goes_on(game):
        return -2
    return 0 if game.time == TIME_NOT_CALLED else -3


def refusal_of_more(game, half):
    if half not in (0, 1):
        return -1
    if no_game_goes_on(game):
        return -2
    if game.last_ball == NO_BALL or game.time != TIME_NOT_CALLED:
        return -3
    if game.is_out(game.last_ball):
        return -4
    return -5 if game.half_turns[side_of(game.last_ball)] < price_of(half) else 0


def answer_begin(referee, reader):
    lifts = reader.number()
    first = reader.number()
    half_turns = [reader.number(), reader.number()]
    refusal = refusal_of_begin(lifts, first, half_turns)
    if refusal < 0:
        return [refusal]
    referee.game = Game(lifts, first, half_turns)
    return [0]


def answer_turn(referee, reader):
    ball = reader.number()
    how = reader.number()
    refusal = refusal_of_turn(referee.game, ball, how)
    if refusal < 0:
        return [refusal]
    begin_turn(referee.game, ball, 0)
    return [0]


def answer_stroke(referee, reader):
    game = referee.game
    stroke = reader.stroke()
    refusal = refusal_of_stroke(game, stroke)
    if refusal < 0:
        return [refusal]
    play_stroke(game, stroke)
    return [game.state(), game.side_points(0), game.side_points(1)]


def answer_pass(referee, reader):
    game = referee.game
    refusal = refusal_between_turns(game)
    if refusal < 0:
        return [refusal]
    pass_turn(game)
    return [game.state()]


def answer_more(referee, reader):
    game = referee.game
    half = reader.number()
    refusal = refusal_of_more(game, half)
    if refusal < 0:
        return [refusal]
    take_turn_more(game, half)
    return [game.half_turns[game.side]]


def answer_wired(referee, reader):
    game = referee.game
    refusal = refusal_between_turns(game)
    if refusal < 0:
        return [refusal]
    find_wired(game)
    return [game.owed]


def answer_time(referee, reader):
    game = referee.game
    refusal = refusal_of_time(game)
    if refusal < 0:
        return [refusal]
    call_time(game)
    return [0]


def answer_now(referee, reader):
    game = referee.game
    if game is None:
        return [-2]
    if game.state() == GAME_OVER:
        return [GAME_OVER, game.winner]
    told = [game.state(), game.side, game.owed, game.time]
    return told if game.turn is None else told + told_of_turn(game.turn)


def told_of_turn(turn):
    return [turn.ball, turn.beside, turn.half, turn.strokes] + turn.live


def answer_balls(referee, reader):
    game = referee.game
    if game is None:
        return [-2]
    return [BALLS_TOLD] + game.points + game.half_turns


CALLS = {
    1: answer_begin,
    2: answer_turn,
    3: answer_stroke,
    4: answer_pass,
    5: answer_more,
    6: answer_wired,
    7: answer_time,
    8: answer_now,
    9: answer_balls,
}


def answer_call(referee, reader):
    return CALLS[reader.number()](referee, reader)


def answers(calls):
    referee = Referee()
    reader = Reader(calls)
    answered = []
    while not reader.at_end():
        answer = answer_call(referee, reader)
        answered.append(len(answer))
        answered.extend(answer)
    return answered
