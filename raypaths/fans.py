"""Fans of rays: their texts, what becomes of each ray, and how far from a place they come to."""

from raypaths.figures import BLANK, handed_over
from raypaths.spans import Span, exact, minus, outward, plus, square, whole
from raypaths.tracing import RayFails, RayUnsure, traced

FAN_BYTES = 65536
MOST_RAYS = 256
RAY_NUMBERS = 4
ARRIVES = 0
FAILS = 1
LEFT_OPEN = 2


# A text that is no fan's.
class NoFan(ValueError):
    pass


# squares: of each ray that arrives, how far from the place it comes to, as a square; fates: of every ray, in order.
class Outcome:
    def __init__(self):
        self.squares = []
        self.fates = []


# Every blank parts two pieces, so one too many leaves an empty piece, which is no number.
def pieces_of(text):
    pieces = [[]]
    for byte in text:
        if byte == BLANK:
            pieces.append([])
        else:
            pieces[-1].append(byte)
    return pieces


# A fan is a list of starts: each x, y and the slopes u, v.
def read_fan(text):
    if len(text) > FAN_BYTES:
        raise NoFan()
    pieces = pieces_of(text)
    if len(pieces) > MOST_RAYS * RAY_NUMBERS or len(pieces) % RAY_NUMBERS != 0:
        raise NoFan()
    numbers = [handed_over(piece) for piece in pieces]
    return [numbers[at:at + RAY_NUMBERS] for at in range(0, len(numbers), RAY_NUMBERS)]


def square_apart(ray, place):
    aside = minus(ray.point[0], exact(place[0]))
    upward = minus(ray.point[1], exact(place[1]))
    return outward(plus(square(aside), square(upward)), ray.p)


# The greatest ends may be two rays': which ray is the farthest needn't be decided.
def farthest(squares):
    if len(squares) == 0:
        return whole(0)
    # All are multiples of one fineness, so their ends compare as they are.
    return Span(max([one.lo for one in squares]), max([one.hi for one in squares]), squares[0].den)


def followed(system, line, starts, z, place, p):
    outcome = Outcome()
    for start in starts:
        try:
            ray = traced(system, line, start, z, p)
        except RayFails:
            outcome.fates.append(FAILS)
        except RayUnsure:
            outcome.fates.append(LEFT_OPEN)
        else:
            outcome.fates.append(ARRIVES)
            outcome.squares.append(square_apart(ray, place))
    return outcome
