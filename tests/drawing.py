"""Systems and rays drawn by a seed, for the tests that go through many."""

from fractions import Fraction


def fraction(rng, most, grain):
    return Fraction(rng.randint(-most * grain, most * grain), grain)


def curve(rng, grain):
    if rng.random() < 0.25:
        return Fraction(0)
    most = rng.choice((1, 1, 1, 4))
    return fraction(rng, most, grain) / rng.choice((2, 8, 20))


def part(rng, steep):
    grain = rng.choice((1, 4, 7, 1000))
    kind = rng.choice(("surface", "surface", "surface", "mirror", "stop"))
    drawn = {"kind": kind, "gap": abs(fraction(rng, 2, grain)), "n": 1 + abs(fraction(rng, 1, grain)),
             "c": curve(rng, grain) * (4 if steep else 1), "k": Fraction(0), "clear": None}
    if kind == "stop":
        drawn["c"] = Fraction(0)
    elif rng.random() < 0.5:
        drawn["k"] = rng.choice((Fraction(-1), Fraction(-2), fraction(rng, 2, grain)))
    if rng.random() < 0.2:
        drawn["clear"] = abs(fraction(rng, 3, grain)) + Fraction(1, 7)
    return drawn


def case(rng, steep=False, most_parts=6):
    """Parts, the medium's index, the start, the plane."""
    parts = [part(rng, steep) for _ in range(rng.randint(0, most_parts))]
    grain = rng.choice((1, 2, 3, 100))
    wide = 2 if steep else 1
    start = [fraction(rng, wide, grain) for _ in range(2)] + [fraction(rng, wide, grain) / 3 for _ in range(2)]
    return parts, 1 + abs(fraction(rng, 1, grain)), start, fraction(rng, 5, grain)
