"""The calls that the package answers."""

from raypaths.figures import NoNumber, TooGreat, exact_text, handed_over
from raypaths.systems import SystemFault, read_system
from raypaths.tracing import RayFails, RayUnsure, traced

MOST_LINE = 2
MOST_FINENESS = 256
SYSTEM_BYTES = 65536
BLANK = 32


def both_ends(span):
    return exact_text((span.lo, span.den)) + [BLANK] + exact_text((span.hi, span.den))


def path(line, p, t, x, y, u, v, z):
    try:
        numbers = [handed_over(handed) for handed in (x, y, u, v, z)]
    except NoNumber:
        return [-1]
    if line > MOST_LINE or p > MOST_FINENESS or len(t) > SYSTEM_BYTES:
        return [-1]
    try:
        system = read_system(t)
    except SystemFault as fault:
        return [-3, fault.place, fault.kind]
    try:
        text = both_ends(traced(system, line, numbers[:4], numbers[4], p).length)
    except (RayFails, RayUnsure):
        return [-5]
    except TooGreat:
        return [-6]
    return [len(text)] + text
