"""fan against the document's steps over Python's fractions, for many systems, fans, places and finenesses."""

import random
import unittest
from fractions import Fraction

from tests import drawing, oracle
from tests.helpers import ask_fan, fates
from tests.test_steps import EDGES, FINENESSES


class FanSteps(unittest.TestCase):
    def compare(self, parts, medium, starts, plane, place, p):
        rays = " ".join(str(number) for start in starts for number in start)
        answer = ask_fan(oracle.text_of(parts, medium), rays, str(plane), str(place[0]), str(place[1]), p)
        self.assertEqual(answer, oracle.fan(parts, medium, starts, plane, place, p), (parts, starts, plane, place, p))
        return answer

    def compare_many(self, rng, turns, finenesses, steep=False, most_parts=6, most_rays=8):
        """How often each fate is told, and in how many fans rays of unlike fates stand beside one another."""
        seen, mixed = {"0": 0, "1": 0, "2": 0}, 0
        for _ in range(turns):
            parts, medium, _, plane = drawing.case(rng, steep, most_parts)
            starts = [drawing.case(rng, steep)[2] for _ in range(rng.randint(1, most_rays))]
            place = (drawing.fraction(rng, 3, 7), drawing.fraction(rng, 3, 100))
            told = fates(self.compare(parts, medium, starts, plane, place, rng.choice(finenesses))).split(" ")
            mixed += len(set(told)) > 1
            for fate in told:
                seen[fate] += 1
        return seen, mixed

    def test_edges_of_the_steps(self):
        for name, parts, medium, start, plane, p, step in EDGES:
            for other in ((0, 0, 0, 0), (Fraction(1, 2), Fraction(-1, 3), Fraction(1, 9), 0)):
                self.compare(parts, medium, [start], plane, (1, Fraction(-2, 3)), p)
                self.compare(parts, medium, [start, other], plane, (1, Fraction(-2, 3)), p)
                self.compare(parts, medium, [other, start], plane, (1, Fraction(-2, 3)), p)

    def test_all_finenesses(self):
        seen, mixed = self.compare_many(random.Random(31), 250, FINENESSES)
        self.assertGreater(min(seen.values()), 20)
        self.assertGreater(mixed, 20)

    def test_coarse_finenesses(self):
        seen, mixed = self.compare_many(random.Random(32), 400, (0, 1, 2, 3, 4, 5), steep=True, most_parts=3)
        self.assertGreater(min(seen.values()), 20)
        self.assertGreater(mixed, 20)

    def test_fine_finenesses(self):
        seen, mixed = self.compare_many(random.Random(33), 150, (20, 40, 80), steep=True)
        self.assertGreater(min(seen["0"], seen["1"]), 20)
        self.assertGreater(mixed, 20)

    def test_many_parts_and_many_rays(self):
        self.compare_many(random.Random(34), 10, (64, 256), most_parts=64)
        self.compare_many(random.Random(35), 3, (8, 30), most_rays=256)


if __name__ == "__main__":
    unittest.main()
