"""Rays whose length is known without the steps; and each way not to get through (-5)."""

import unittest
from fractions import Fraction

from raypaths.figures import handed_over
from raypaths.systems import read_system
from raypaths.tracing import RayFails, RayUnsure, traced
from tests import oracle
from tests.helpers import AIR, WIDENED_RAY, ask, bytes_of, ends, widening

SURFACE = "glass air:1,1,1;glass g:3/2,3/2,3/2;start air;surface a after 0 into g curve 1/10;"
MIRROR = AIR + "mirror m after 5 flat;"
LINES = "glass a:1,2,3;glass b:3,5/2,7;start a;"


class Told(unittest.TestCase):
    def told(self, length, *system, **ray):
        self.assertEqual(ask(*system, **ray), f"{length} {length}", (system, ray))

    def near(self, length, *system, **ray):
        """The length lies between the two numbers, and they are near one another at a fine p."""
        for p in (6, 10, 20, 50, 100, 256):
            answer = ask(*system, p=p, **ray)
            self.assertIsInstance(answer, str, (system, ray, p))
            lo, hi = ends(answer)
            self.assertLessEqual(lo, length, (system, ray, p))
            self.assertLessEqual(length, hi, (system, ray, p))
            self.assertLess(hi - lo, Fraction(4000, 2 ** p))


class TheRuns(Told):
    def test_surface(self):
        self.assertEqual(ask(SURFACE, z="3", p=4), "9/2 9/2")

    def test_plane_mirror(self):
        self.assertEqual(ask(MIRROR, z="-5", p=4), "10 10")


class AlongTheAxis(Told):
    def test_no_part(self):
        for p in (0, 1, 8, 255, 256):
            self.told("7", AIR, z="7", p=p)
            self.told("0", AIR, z="0", p=p)
            self.told("-7", AIR, z="-7", p=p)

    def test_each_line(self):
        for line, length in enumerate(("10", "20", "30")):
            self.told(length, LINES, z="10", line=line)
        through = LINES + "surface s after 4 into b flat;"
        for line, length in enumerate(("10", "13", "26")):
            self.told(length, through, z="2", line=line)

    def test_the_plane_is_behind_the_last_vertex(self):
        system = LINES + "surface s after 2 into b flat;surface t after 3 into a curve 1/8;"
        self.told("12", system, z="1")
        self.told("11", system, z="0")
        self.told("9", system, z="-2")

    def test_the_index_before_each_part_counts(self):
        self.told("17", LINES + "surface s after 2 into b flat;stop t after 3;surface q after 1 into a flat;", z="3")

    def test_a_stop_leaves_the_way_and_the_index(self):
        self.told("16", LINES + "stop s after 3 clear 1;stop t after 3;", z="2", line=1)

    def test_mirrors_turn_gaps_and_planes(self):
        self.told("2", MIRROR, z="3")
        self.told("8", MIRROR + "stop s after 2;", z="-1")
        self.told("10", MIRROR + "mirror n after 2 flat;", z="3")
        self.told("4", MIRROR + "mirror n after 2 flat;", z="-3")
        self.told("15", MIRROR + "mirror n after 2 flat;mirror o after 7 flat;", z="-1")
        self.told("29/2", "glass g:3/2,1,1;" + MIRROR + "surface s after 2 into g flat;", z="-5")

    def test_curved_parts_at_their_vertices(self):
        self.told("16", AIR + "mirror m after 5 radius -8;mirror n after 4 radius 2 conic -1;", z="7")


class SameSystems(unittest.TestCase):
    def test_numbers_written_otherwise(self):
        def answer(gap, index, shape, clear):
            system = (f"glass a:1,1,1;glass g:{index},1,1;start a;surface s after {gap} into g {shape} clear {clear};"
                      f"mirror m after {gap} {shape};")
            return ask(system, x="1/3", u="1/7", z="-2", p=40)
        first = answer("3/2", "8/5", "curve -1/8 conic -1/2", "5")
        self.assertIsInstance(first, str)
        for gap, index, shape, clear in (
                ("1.5", "1.6", "curve -0.125 conic -0.5", "5.0"), ("6/4", "16/10", "radius -8 conic -3/6", "10/2"),
                ("01.50", "0008/5", "radius - 8.000 conic - 0.50", "25/5"), ("3 / 2", "1.60", "radius -16/2 conic -0.5", "005")):
            self.assertEqual(answer(gap, index, shape, clear), first)
        self.assertNotEqual(answer("3/2", "8/5", "curve 1/8 conic -1/2", "5"), first)
        self.assertNotEqual(answer("3/2", "8/5", "curve -1/8 conic 1/2", "5"), first)
        self.assertEqual(answer("1", "2", "flat", "1"), answer("1", "2", "curve 0 conic 7", "1"))


class OffTheAxis(Told):
    def test_a_piece_below_zero(self):
        # At x 1 the shell lies 1/2 behind the start; the index is the same on both sides, so nothing bends.
        same = "glass g:2,2,2;start g;surface s after 0 into g curve -1 conic -1;"
        self.told("6", same, x="1", z="3")
        self.told("-1", same, x="1", z="-1/2")
        self.told("10", same + "stop s2 after 5;", x="1", z="0")

    def test_slopes(self):
        self.near(5, AIR, u="4/3", z="3")
        self.near(5, AIR, u="-4/3", z="3")
        self.near(3, AIR, u="2", v="2", z="1")
        self.near(3, AIR, x="7", y="-9/7", u="-2", v="2", z="1")

    def test_a_plane_surface_bends(self):
        # 3/5 and 4/5 are the sines on its two sides, and 4/3 the index behind.
        system = "glass a:1,1,1;glass b:4/3,4/3,4/3;start a;surface s after 3 into b flat;"
        self.near(Fraction(35, 3), system, u="4/3", z="4")
        self.near(Fraction(35, 3), system, v="-4/3", z="4")
        back = "glass a:1,1,1;glass b:4/3,4/3,4/3;start b;surface s after 4 into a flat;"
        self.near(Fraction(35, 3), back, u="3/4", z="3")

    def test_a_plane_surface_behind_a_mirror(self):
        system = ("glass a:1,1,1;glass b:4/3,4/3,4/3;start a;mirror m after 1 flat;"
                  "surface s after 2 into b flat;")
        self.near(Fraction(35, 3), system, u="4/3", z="-4")

    def test_a_parabola_brings_all_to_its_focus(self):
        system = AIR + "mirror m after 5 curve -1/2 conic -1;"
        for x, y in (("0", "0"), ("1", "0"), ("3/2", "0"), ("0", "-1.25"), ("1/3", "2/7")):
            self.near(6, system, x=x, y=y, z="-1")
        self.near(6, AIR + "mirror m after 5 radius -2 conic -1;", x="1/2", z="-1")

    def test_a_parabola_met_behind_a_mirror(self):
        system = AIR + "mirror m after 1 flat;mirror n after 5 curve 1/2 conic -1;"
        self.near(7, system, x="1", y="1/2", z="1")

    def test_an_ellipse_brings_all_to_its_focus_in_glass(self):
        system = "glass a:1,1,1;glass g:3/2,3/2,3/2;start a;surface s after 2 into g radius 10 conic -4/9;"
        for x, y in (("0", "0"), ("1", "0"), ("-3", "2"), ("0", "5.5")):
            self.near(47, system, x=x, y=y, z="30")

    def test_a_sphere_sends_back_to_its_centre(self):
        system = AIR + "mirror m after 10 radius -10;"
        for u, v in (("0", "0"), ("1/10", "0"), ("1/3", "-1/4"), ("0", "2")):
            self.near(20, system, u=u, v=v, z="-10")

    def test_the_point_of_two_that_is_met(self):
        # From one side of the sphere about z -1 to its other side: the near point is left, not met.
        system = AIR + "stop s after 0;surface t after 1/5 into air curve -1;"
        for p in (8, 64, 256):
            wanted = oracle.length(
                [{"kind": "stop", "gap": "0", "c": 0, "k": 0, "clear": None},
                 {"kind": "surface", "gap": "1/5", "n": 1, "c": -1, "k": 0, "clear": None}],
                1, ("-3/5", 0, 3, 0), "1/2", p)
            self.assertEqual(ends(ask(system, x="-3/5", u="3", z="1/2", p=p)), wanted)
        lo, hi = ends(ask(system, x="-3/5", u="3", z="0.2", p=100))
        self.assertLess(lo ** 2, Fraction(2, 5) ** 2 * 10)
        self.assertGreater(hi ** 2, Fraction(2, 5) ** 2 * 10)

    def test_light_let_through(self):
        for clear in ("2.5", "5/2", "3"):
            self.told("4", AIR + f"stop s after 1 clear {clear};", x="3/2", y="-2", z="3")
        self.told("4", AIR + "surface s after 1 into air flat clear 5/2;", x="3/2", y="2", z="3")
        self.told("4", AIR + "mirror s after 1 flat clear 5/2;", x="3/2", y="2", z="-3")


class NotThrough(unittest.TestCase):
    def gone(self, error, system, x="0", y="0", u="0", v="0", z="1", p=64):
        self.assertEqual(ask(system, x, y, u, v, z, p), [-5], system)
        numbers = [handed_over(bytes_of(number)) for number in (x, y, u, v, z)]
        with self.assertRaises(error):
            traced(read_system(bytes_of(system)), 0, numbers[:4], numbers[4], p)

    def test_misses(self):
        for word in ("mirror s after 1", "surface s after 1 into air"):
            self.gone(RayFails, AIR + word + " curve 1;", x="2")
            self.gone(RayFails, AIR + word + " curve -1;", y="-2")
            self.gone(RayUnsure, AIR + word + " curve 1;", x="1")
        self.gone(RayFails, AIR + "mirror m after 1 curve 1 conic 3;", x="3/4")
        self.assertIsInstance(ask(AIR + "mirror m after 1 curve 1 conic -1/2;", x="5/4", z="-1"), str)

    def test_meets_only_the_far_side(self):
        self.gone(RayFails, AIR + "surface s after 0 into air curve 1;", x="15", u="-10")
        self.gone(RayUnsure, AIR + "surface s after 0 into air curve 1;", x="11", u="-10")

    def test_turned_away_from_a_plane(self):
        steep = AIR + "mirror m after 1 curve 2 conic -1;stop s after 1;"
        self.gone(RayFails, steep, x="1")
        self.gone(RayUnsure, steep, x="1/2", z="-1")

    def test_along_the_plane(self):
        self.gone(RayUnsure, AIR + "mirror m after 1 curve 2 conic -1;", x="1/2", z="-1")
        self.gone(RayUnsure, AIR, u="1", p=0)
        self.assertIsInstance(ask(AIR, u="1", p=1), str)

    def test_blocked(self):
        for word in ("stop s after 1", "mirror s after 1 flat", "surface s after 1 into air flat"):
            self.gone(RayFails, AIR + word + " clear 2.5;", x="3/2", y="-2.0000001", z="-1")
            self.gone(RayFails, AIR + word + " clear 2.4999999;", x="3/2", y="2", z="-1")
        self.gone(RayFails, AIR + "stop s after 3 clear 3.9;", u="4/3")
        self.gone(RayUnsure, AIR + "stop s after 3 clear 4;", u="4/3")
        self.assertIsInstance(ask(AIR + "stop s after 3 clear 4.1;", u="4/3"), str)

    def test_thrown_back_inside(self):
        flat = "glass g:5/4,5/4,5/4;glass a:1,1,1;start g;surface s after 1 into a flat;"
        self.gone(RayFails, flat, u="1.34")
        self.gone(RayUnsure, flat, u="4/3")
        self.assertIsInstance(ask(flat, u="1.33", p=64), str)
        behind = "glass g:5/4,5/4,5/4;glass a:1,1,1;start g;mirror m after 1 flat;surface s after 1 into a flat;"
        self.gone(RayFails, behind, v="-1.34")

    def test_left_open_at_coarse_finenesses(self):
        self.gone(RayUnsure, AIR + "stop s after 1;", u="1", p=1)
        self.gone(RayUnsure, AIR + "mirror m after 1/100 curve 1 conic 9999;", x="0.00999", z="-1", p=8)

    def test_a_ray_that_comes_back_from_its_mirror_forward(self):
        # It still goes toward greater z behind the mirror; only a part behind it is missed.
        steep = AIR + "mirror m after 1 curve 2 conic -1;"
        lo, hi = ends(ask(steep, x="1", z="4", p=64))
        self.assertLess(lo, 7)
        self.assertGreater(hi, 7)


class TooGreat(unittest.TestCase):
    def wide(self, stops):
        return ask(widening(stops), **WIDENED_RAY)

    def test_a_length_too_great_to_be_told(self):
        answers = [self.wide(stops) for stops in range(25, 60)]
        told = [answer for answer in answers if isinstance(answer, str)]
        self.assertGreater(len(told), 3)
        self.assertEqual(answers[len(told):], [[-6]] * (len(answers) - len(told)))
        lo, hi = ends(told[-1])
        self.assertLess(max(abs(lo.numerator), abs(hi.numerator)), 2 ** 4096)
        self.assertGreater(max(abs(lo.numerator), abs(hi.numerator)), 2 ** 3900)


if __name__ == "__main__":
    unittest.main()
