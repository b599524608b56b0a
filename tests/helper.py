"""Calls in the form that answers() takes, games brought to a wanted score, and answers call by call."""

from hoopgame.referee import answers

LOWEST = -2147483648
HIGHEST = 2147483647
MOST_CALLS = 300
PASS = [4]
WIRED = [6]
TIME = [7]
NOW = [8]
BALLS = [9]


def begin(lifts=0, first=0, a=0, b=0):
    return [1, lifts, first, a, b]


def turn(ball, how=0):
    return [2, ball, how]


def stroke(hit=-1, hoop=0, fault=0, ran=(), peg=(), off=()):
    return [3, hit, hoop, fault, len(ran), *ran, len(peg), *peg, len(off), *off]


def more(half):
    return [5, half]


def hoops(how_many):
    """So many strokes, in each of which the striker's ball runs its hoop and no more."""
    return [stroke(hoop=1)] * how_many


def game(points=(0, 0, 0, 0), lifts=0, first=0, a=0, b=0):
    """Calls up to where the balls have these points and side first is to begin, owed nothing.

    No ball runs its own hoop on the way, so no lift comes of it.
    """
    calls = [begin(lifts, first, a, b)]
    side = first
    have = [0, 0, 0, 0]
    wanted = [min(number, 12) for number in points]
    while have != wanted:
        ran = [ball for ball in range(4) if ball != side and have[ball] < wanted[ball]]
        calls += [turn(side), stroke(ran=ran)]
        for ball in ran:
            have[ball] += 1
        side = 1 - side
    for ball in [ball for ball in range(4) if points[ball] == 13]:
        if side != ball % 2:
            calls.append(PASS)
        calls += [turn(ball), stroke(peg=[ball])]
        side = 1 - ball % 2
    if side != first:
        calls.append(PASS)
    return calls


def timed(points=(0, 0, 0, 0), time=1, first=0, lifts=0):
    """Like game(), with time called; time: 1 called, 2 the last turn, 3 till one has more (points as many for both)."""
    if time == 2:
        return game(points, lifts, 1 - first, a=9, b=9) + [TIME, PASS]
    return game(points, lifts, first, a=9, b=9) + [TIME] + ([PASS, PASS] if time == 3 else [])


def over():
    """Calls up to the end of a game that side 0 has won."""
    return game((12, 0, 13, 0), a=5, b=5) + [turn(0), stroke(peg=[0])]


def flat(calls):
    return [number for call in calls for number in call]


def split(answered):
    """The answers, a list each, out of the one list with their counts."""
    found = []
    place = 0
    while place < len(answered):
        size = answered[place]
        found.append(answered[place + 1:place + 1 + size])
        place += 1 + size
    return found


def play(calls):
    """What each of these calls, one behind another, is answered."""
    if len(calls) > MOST_CALLS:
        raise ValueError("more calls than a list may have")
    return split(answers(flat(calls)))


def last(calls):
    """What the last of these calls is answered."""
    return play(calls)[-1]


def now(calls):
    return last(calls + [NOW])


def balls(calls):
    return last(calls + [BALLS])


def owed(calls, side):
    """What side is owed behind these calls, as turn's how shows it."""
    ball = side
    if last(calls + [turn(ball, 0)]) == [-4]:
        ball = side + 2
    fitting = [how for how in (0, 1, 2) if last(calls + [turn(ball, how)]) == [0]]
    return max(fitting)
