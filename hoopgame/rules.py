"""The rules of the game: what a stroke counts, what comes next, and when it's all over."""

BALLS = (0, 1, 2, 3)
NO_BALL = -1
NO_SIDE = -1

ALL_HOOPS = 12
OUT = 13
FIRST_LIFT = 7
SECOND_LIFT = 10

LIFT = 1
LIFT_TO_A_BALL = 2

BY_ITSELF = 0
BALL_AT_SIDE = 1
TURN_OVER = 2
GAME_OVER = 3

TIME_NOT_CALLED = 0
TIME_CALLED = 1
TIME_LAST_TURN = 2
TIME_TILL_ONE_HAS_MORE = 3


class Stroke:
    """What the referee tells of one stroke."""

    def __init__(self, hit, hoop, fault, ran, peg, off):
        self.hit = hit
        self.hoop = hoop
        self.fault = fault
        self.ran = ran
        self.peg = peg
        self.off = off


class Turn:
    """One ball's turn, as it stands ahead of its next stroke."""

    def __init__(self, ball, half, game):
        self.ball = ball
        self.half = half
        self.beside = NO_BALL
        self.strokes = 0
        self.live = game.others_in_play(ball)
        self.hoops_before = game.points[ball]
        self.partner_before = game.points[partner_of(ball)]


class Game:
    """All that is known of one game between two calls."""

    def __init__(self, lifts, first, half_turns):
        self.lifts = lifts
        self.points = [0, 0, 0, 0]
        self.half_turns = half_turns
        self.side = first
        self.owed = 0
        self.time = TIME_NOT_CALLED
        self.turn = None
        # The ball that a turn more would be played with: none, unless a turn has just ended.
        self.last_ball = NO_BALL
        self.winner = NO_SIDE

    def is_out(self, ball):
        return self.points[ball] == OUT

    def others_in_play(self, ball):
        return [other for other in BALLS if other != ball and not self.is_out(other)]

    def side_points(self, side):
        return self.points[side] + self.points[side + 2]

    def leader(self):
        lead = self.side_points(0) - self.side_points(1)
        if lead == 0:
            return NO_SIDE
        return 0 if lead > 0 else 1

    def state(self):
        if self.winner != NO_SIDE:
            return GAME_OVER
        if self.turn is None:
            return TURN_OVER
        return BY_ITSELF if self.turn.beside == NO_BALL else BALL_AT_SIDE


def side_of(ball):
    return ball % 2


def partner_of(ball):
    return (ball + 2) % 4


def begin_turn(game, ball, half):
    game.side = side_of(ball)
    game.owed = 0
    game.last_ball = NO_BALL
    game.turn = Turn(ball, half, game)


def hand_over(game, owed):
    """Let the other side be the next to begin, unless time ends the game here."""
    game.turn = None
    game.side = 1 - game.side
    game.owed = owed
    if game.time == TIME_CALLED:
        game.time = TIME_LAST_TURN
    elif game.time == TIME_LAST_TURN:
        game.time = TIME_TILL_ONE_HAS_MORE
        game.winner = game.leader()


def pass_turn(game):
    hand_over(game, 0)
    game.last_ball = NO_BALL


def end_turn(game):
    turn = game.turn
    hand_over(game, owed_for(game, turn))
    game.last_ball = turn.ball


def find_wired(game):
    game.owed = max(game.owed, LIFT)


def call_time(game):
    game.time = TIME_CALLED


def owed_for(game, turn):
    if game.lifts == 0:
        return 0
    # The peg is a point, but no hoop.
    hoops = min(game.points[turn.ball], ALL_HOOPS)
    came_to_first = turn.hoops_before < FIRST_LIFT <= hoops
    came_to_second = turn.hoops_before < SECOND_LIFT <= hoops
    if came_to_first and came_to_second and turn.partner_before < FIRST_LIFT:
        return LIFT_TO_A_BALL
    return LIFT if came_to_first or came_to_second else 0


def price_of(half):
    return 1 if half == 1 else 2


def take_turn_more(game, half):
    begin_turn(game, game.last_ball, half)
    game.half_turns[game.side] -= price_of(half)


def play_stroke(game, stroke):
    # Ahead of the count: a ball that this very stroke puts out was still in play as it was hit.
    live = live_as_it_hits(game, stroke)
    game.turn.strokes += 1
    count_points(game, stroke)
    game.winner = winner_behind_stroke(game)
    if game.winner == NO_SIDE:
        prepare_next_stroke(game, stroke, live)


def hoop_counts(turn, stroke):
    return stroke.hoop == 1 and turn.half == 0


def live_as_it_hits(game, stroke):
    turn = game.turn
    return game.others_in_play(turn.ball) if hoop_counts(turn, stroke) else turn.live


def count_points(game, stroke):
    turn = game.turn
    points = game.points
    if stroke.fault == 1 or turn.half == 1:
        return
    if stroke.hoop == 1:
        points[turn.ball] += 1
    for ball in stroke.ran:
        if points[ball] < ALL_HOOPS:
            points[ball] += 1
    # Asked once, ahead of the loop: the striker's own peg would change the answer.
    if points[turn.ball] == ALL_HOOPS:
        for ball in stroke.peg:
            if points[ball] == ALL_HOOPS:
                points[ball] = OUT


def winner_behind_stroke(game):
    # The striker's side comes first: it has won if both have their balls out by one stroke.
    for side in (game.side, 1 - game.side):
        if game.side_points(side) == 2 * OUT:
            return side
    return game.leader() if game.time == TIME_TILL_ONE_HAS_MORE else NO_SIDE


def prepare_next_stroke(game, stroke, live):
    """Set up the turn's next stroke, or end the turn; live: the balls that were so as it hit."""
    turn = game.turn
    hit_counts = stroke.hit in live
    if loses_turn(game, stroke, hit_counts) or not earns_stroke(turn, stroke, hit_counts):
        end_turn(game)
        return
    turn.beside = stroke.hit if hit_counts and not game.is_out(stroke.hit) else NO_BALL
    # A ball whose hit doesn't count is none of the live ones, so this takes out no other.
    turn.live = [ball for ball in live if ball != stroke.hit and not game.is_out(ball)]


def loses_turn(game, stroke, hit_counts):
    """Whether the turn is over, whatever the stroke has earned."""
    turn = game.turn
    if stroke.fault == 1 or game.is_out(turn.ball):
        return True
    if turn.beside == NO_BALL:
        return False
    if turn.beside in stroke.off and not game.is_out(turn.beside):
        return True
    return turn.ball in stroke.off and not hoop_counts(turn, stroke) and not hit_counts


def earns_stroke(turn, stroke, hit_counts):
    return hit_counts or hoop_counts(turn, stroke) or turn.beside != NO_BALL
