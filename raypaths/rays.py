"""The calls that the package answers."""

from raypaths.fans import NoFan, farthest, followed, read_fan
from raypaths.figures import BLANK, NoNumber, TooGreat, exact_text, handed_over
from raypaths.systems import SystemFault, read_system
from raypaths.tracing import RayFails, RayUnsure, traced

MOST_LINE = 2
MOST_FINENESS = 256
SYSTEM_BYTES = 65536


def is_beyond(line, p, t):
    return line > MOST_LINE or p > MOST_FINENESS or len(t) > SYSTEM_BYTES


def both_ends(span):
    return exact_text((span.lo, span.den)) + [BLANK] + exact_text((span.hi, span.den))


def fates_behind(fates):
    text = []
    for fate in fates:
        text.append(BLANK)
        text.extend(exact_text((fate, 1)))
    return text


def told(text):
    return [len(text)] + text


def path(line, p, t, x, y, u, v, z):
    try:
        numbers = [handed_over(handed) for handed in (x, y, u, v, z)]
    except NoNumber:
        return [-1]
    if is_beyond(line, p, t):
        return [-1]
    try:
        system = read_system(t)
    except SystemFault as fault:
        return [-3, fault.place, fault.kind]
    try:
        return told(both_ends(traced(system, line, numbers[:4], numbers[4], p).length))
    except (RayFails, RayUnsure):
        return [-5]
    except TooGreat:
        return [-6]


def fan(line, p, t, f, z, x, y):
    try:
        numbers = [handed_over(handed) for handed in (z, x, y)]
        starts = read_fan(f)
    except (NoNumber, NoFan):
        return [-1]
    if is_beyond(line, p, t):
        return [-1]
    try:
        system = read_system(t)
    except SystemFault as fault:
        return [-3, fault.place, fault.kind]
    outcome = followed(system, line, starts, numbers[0], numbers[1:], p)
    try:
        return told(both_ends(farthest(outcome.squares)) + fates_behind(outcome.fates))
    except TooGreat:
        return [-6]
