"""path against the document's steps over Python's fractions, for many systems, rays and finenesses."""

import random
import unittest
from fractions import Fraction

from raypaths.figures import handed_over
from raypaths.systems import read_system
from raypaths.tracing import RayFails, RayUnsure, traced
from tests import drawing, oracle
from tests.helpers import ask, bytes_of, ends

FINENESSES = (0, 1, 2, 3, 4, 6, 8, 12, 16, 24, 40, 64, 100, 255, 256)


def expected(parts, medium, start, plane, p):
    """Both ends or a refusal; arrives, fails or open; and which step says so."""
    try:
        return oracle.length(parts, medium, start, plane, p), "arrives", "arrives"
    except oracle.Gone as gone:
        return [-5], gone.args[0], gone.args[1]


def answered(parts, medium, start, plane, p):
    x, y, u, v = [str(number) for number in start]
    answer = ask(oracle.text_of(parts, medium), x, y, u, v, str(plane), p)
    return ends(answer) if isinstance(answer, str) else answer


def fate(parts, medium, start, plane, p):
    numbers = [handed_over(bytes_of(str(number))) for number in (*start, plane)]
    try:
        traced(read_system(bytes_of(oracle.text_of(parts, medium))), 0, numbers[:4], numbers[4], p)
    except RayFails:
        return "fails"
    except RayUnsure:
        return "open"
    return "arrives"


def mirror(gap, c, k, clear=None):
    return {"kind": "mirror", "gap": gap, "c": Fraction(c), "k": Fraction(k), "clear": clear}


def stop(gap, clear=None):
    return {"kind": "stop", "gap": gap, "c": Fraction(0), "k": Fraction(0), "clear": clear}


def surface(gap, n, c, k, clear=None):
    return {"kind": "surface", "gap": gap, "n": n, "c": Fraction(c), "k": Fraction(k), "clear": clear}


# Each is at the edge of one step, and is told otherwise where that step is only a little off.
EDGES = (
    ("V's lo is 0", [mirror(1, "-1/2", 1)], "3/2", (0, -1, "1/6", "1/6"), -5, 2, "V"),
    ("V's lo is the least above 0", [mirror(2, 0, 0)], 2, (-1, 1, 0, 0), -4, 0, "arrives"),
    ("A's z has its lo at 0", [mirror(0, 1, 0)], 1, ("10.9823", 0, -10, 0), 1, 16, "A's z"),
    ("A's z has the least lo above 0", [stop(2)], 2, ("3/2", 0, 0, 0), "-7/2", 0, "arrives"),
    ("A's z has its hi at 0", [mirror(2, "-1/2", 0), surface(2, 2, "-1/2", 2)], 2, (2, 0, "2/3", "2/3"), 4, 7,
     "far side"),
    ("0 is in H and in Q", [mirror("833/500", "603/400", -2)], 2, (-1, -2, "1/3", "-1/3"), -2, 2, "H"),
    ("0 is in H alone", [mirror(2, "-1/2", 0, "81/28")], "87/50", ("-77/50", "123/100", "139/300", "43/300"),
     "-43/100", 6, "arrives"),
    ("0 is in G", [mirror(2, "-1/2", 0, "53/28"), surface("11/7", "11/7", "5/28", "1/7")], 1, (-1, -1, "-1/3", "1/3"),
     5, 10, "arrives"),
    ("0 is in M", [surface("487/500", "113/100", "7/25", -2)], 1, ("3/2", "-3/2", "1/2", "-2/3"), "-1/2", 5, "arrives"),
    ("0 is in x", [stop(2, "3/7")], "133/100", ("143/100", "107/100", "-49/75", "22/75"), "119/25", 2, "blocked"),
    ("0 is in A's x and y", [mirror(2, "3/20", -1)], 2, (1, -1, "-1/3", "1/3"), 4, 3, "arrives"),
    ("0 is in z", [stop(2), surface(0, 2, "1/5", 0)], 2, (1, 1, "-2/3", "-1/3"), -3, 6, "arrives"),
    ("from a sphere's centre", [mirror("10/3", "-3/10", 0)], 1, (0, 0, "1/3", "1/7"), "-10/3", 20, "arrives"),
)


class Steps(unittest.TestCase):
    def compare(self, drawn, p):
        wanted, came, step = expected(*drawn, p)
        self.assertEqual(answered(*drawn, p), wanted, (drawn, p, step))
        self.assertEqual(fate(*drawn, p), came, (drawn, p, step))
        return step

    def compare_many(self, rng, turns, finenesses, steep=False, most_parts=6):
        steps = [self.compare(drawing.case(rng, steep, most_parts), rng.choice(finenesses)) for _ in range(turns)]
        return {step: steps.count(step) for step in steps}

    def test_edges(self):
        for name, parts, medium, start, plane, p, step in EDGES:
            self.assertEqual(self.compare((parts, medium, start, plane), p), step, name)

    def test_all_finenesses(self):
        seen = self.compare_many(random.Random(1), 1200, FINENESSES)
        self.assertGreater(seen["arrives"], 300)

    def test_coarse_finenesses(self):
        seen = self.compare_many(random.Random(2), 2000, (0, 1, 2, 3, 4, 5), steep=True)
        for step in ("arrives", "R", "A's z", "U", "B", "plane"):
            self.assertIn(step, seen)

    def test_every_way_to_fail(self):
        seen = self.compare_many(random.Random(3), 2000, (20, 40, 80), steep=True)
        for step in ("misses", "turned away", "far side", "blocked", "thrown back"):
            self.assertIn(step, seen)

    def test_many_parts(self):
        self.compare_many(random.Random(4), 60, (64, 256), most_parts=64)


if __name__ == "__main__":
    unittest.main()
