"""Fans whose fates and farthest are known without the steps."""

import itertools
import unittest
from fractions import Fraction

from raypaths.rays import fan
from tests import oracle
from tests.helpers import AIR, WIDENED_RAY, ask, ask_fan, bytes_of, ends, farthest, fates, widening
from tests.test_steps import mirror, surface

SURFACE = "glass air:1,1,1;glass g:3/2,3/2,3/2;start air;surface a after 0 into g curve 1/10;"
MIRROR = AIR + "mirror m after 5 flat;"
AXIS = "0 0 0 0"
DENSE = "glass g:5/4,5/4,5/4;glass a:1,1,1;start g;"
STEEP = AIR + "mirror m after 1 curve 2 conic -1;"

# Each way not to arrive: the system, a ray that fails so (None: there's none) and one that is left open. The ray along
# the axis arrives.
WAYS = (
    ("misses a sphere", AIR + "mirror m after 1 curve 1;", "2 0 0 0", "1 0 0 0"),
    ("misses a bowl turned about", AIR + "surface s after 1 into air curve -1;", "0 -2 0 0", "0 -1 0 0"),
    ("meets the far side alone", AIR + "surface s after 0 into air curve 1;", "15 0 -10 0", "11 0 -10 0"),
    ("turned away from a plane", STEEP + "stop s after 1;", "1 0 0 0", "1/2 0 0 0"),
    ("blocked by a stop", AIR + "stop s after 3 clear 4;", "0 0 1.4 0", "0 0 4/3 0"),
    ("blocked by a mirror's rim", AIR + "mirror m after 3 flat clear 4;", "0 -0.1 0 -4/3", "0 0 0 -4/3"),
    ("blocked by a surface's rim", AIR + "surface m after 3 into air flat clear 4;", "4.01 0 0 0", "0 0 0 4/3"),
    ("thrown back inside", DENSE + "surface s after 1 into a flat;", "0 0 1.34 0", "0 0 4/3 0"),
    ("thrown back behind a mirror", DENSE + "mirror m after 1 flat;surface s after 1 into a flat;", "0 0 0 -1.34",
     "0 0 0 -4/3"),
    ("lost at the last of several", AIR + "stop s after 1;stop t after 1;stop u after 1 clear 4;", "5 0 0 0", "0 0 4/3 0"),
    ("along the plane", STEEP, None, "0 1/2 0 0"),
)


class TheRun(unittest.TestCase):
    RAYS = "0 0 0 0 0 1 0 0 0 11 0 0"

    def test_fates(self):
        self.assertEqual(fates(ask_fan(SURFACE, self.RAYS, z="30", p=8)), "0 0 1")

    def test_the_whole_text(self):
        self.assertEqual(ask_fan(SURFACE, self.RAYS, z="30", p=8), "0 9/256 0 0 1")
        told = list(b"0 9/256 0 0 1")
        answer = fan(0, 8, bytes_of(SURFACE), bytes_of(self.RAYS), bytes_of("30"), bytes_of("0"), bytes_of("0"))
        self.assertEqual(answer, [13] + told)

    def test_the_text_by_the_steps_told_once_more(self):
        parts = [surface(0, "3/2", "1/10", 0)]
        starts = [(0, 0, 0, 0), (0, 1, 0, 0), (0, 11, 0, 0)]
        for p in (0, 1, 4, 8, 9, 16, 64, 256):
            self.assertEqual(ask_fan(SURFACE, self.RAYS, z="30", p=p), oracle.fan(parts, 1, starts, 30, (0, 0), p))


class Fates(unittest.TestCase):
    def answer(self, system, *rays):
        return ask_fan(system, " ".join(rays), z="-1", x="3", y="-2", p=64)

    def test_each_way_alone(self):
        for name, system, failing, unsure in WAYS:
            self.assertEqual(fates(self.answer(system, AXIS)), "0", name)
            self.assertEqual(self.answer(system, unsure), "0 0 2", name)
            if failing:
                self.assertEqual(self.answer(system, failing), "0 0 1", name)

    def test_each_way_before_and_behind_a_ray_that_arrives(self):
        for name, system, failing, unsure in WAYS:
            alone = " ".join(self.answer(system, AXIS).split(" ")[:2])
            told = {AXIS: "0", unsure: "2"}
            if failing:
                told[failing] = "1"
            for rays in itertools.permutations(told):
                wanted = " ".join([alone] + [told[ray] for ray in rays])
                self.assertEqual(self.answer(system, *rays), wanted, name)
            for count in (1, 2):
                for lost in [ray for ray in told if ray != AXIS]:
                    row = [lost] * count
                    self.assertEqual(self.answer(system, *row, AXIS), " ".join([alone] + [told[lost]] * count + ["0"]))
                    self.assertEqual(self.answer(system, AXIS, *row), " ".join([alone, "0"] + [told[lost]] * count))

    def test_path_is_refused_where_the_fate_is_not_0(self):
        for name, system, failing, unsure in WAYS:
            self.assertIsInstance(ask(system, z="-1", p=64), str, name)
            for ray in (failing, unsure):
                if ray:
                    self.assertEqual(ask(system, *ray.split(" "), z="-1", p=64), [-5], name)

    def test_left_open_at_a_coarse_fineness_alone(self):
        self.assertEqual(ask_fan(AIR, "0 0 1 0", p=0), "0 0 2")
        self.assertEqual(fates(ask_fan(AIR, "0 0 1 0", p=1)), "0")
        self.assertEqual(ask_fan(AIR + "stop s after 1;", "0 0 1 0", p=1), "0 0 2")
        self.assertEqual(fates(ask_fan(AIR + "stop s after 1;", "0 0 1 0", p=8)), "0")

    def test_every_ray_of_256_in_its_place(self):
        rays = [("1 0 0 0", "5 0 0 0", "0 0 4/3 0")[i * i % 7 % 3] for i in range(256)]
        wanted = " ".join(str(i * i % 7 % 3) for i in range(256))
        answer = ask_fan(AIR + "stop s after 3 clear 4;", " ".join(rays))
        self.assertEqual(answer, "1 1 " + wanted)


class Farthest(unittest.TestCase):
    def test_one_ray(self):
        self.assertEqual(ask_fan(AIR, "3 4 0 0"), "25 25 0")
        self.assertEqual(ask_fan(AIR, "-3 4 0 0", z="77"), "25 25 0")
        self.assertEqual(ask_fan(AIR, "0 0 0 0"), "0 0 0")

    def test_the_greatest_of_several(self):
        rays = ("3 4 0 0", "1 0 0 0", "-2 -2 0 0", "0 0 0 0")
        for row in itertools.permutations(rays):
            self.assertEqual(ask_fan(AIR, " ".join(row)), "25 25 0 0 0 0")

    def test_the_place(self):
        rays = "3 4 0 0 1 1 0 0"
        self.assertEqual(ask_fan(AIR, rays, x="3", y="0"), "16 16 0 0")
        self.assertEqual(ask_fan(AIR, rays, x="0", y="3"), "10 10 0 0")
        self.assertEqual(ask_fan(AIR, rays, x="3", y="4"), "13 13 0 0")
        self.assertEqual(ask_fan(AIR, rays, x="4", y="3"), "13 13 0 0")
        self.assertEqual(ask_fan(AIR, rays, x="-3", y="1/2"), "193/4 193/4 0 0")
        self.assertEqual(ask_fan(AIR, "7 -9 0 0", x="7", y="-9"), "0 0 0")

    def test_x_and_y_unlike(self):
        self.assertEqual(ask_fan(AIR, "2 0 0 0", x="5", y="1"), "10 10 0")
        self.assertEqual(ask_fan(AIR, "2 0 0 0", x="1", y="5"), "26 26 0")
        self.assertEqual(ask_fan(AIR, "0 2 0 0", x="5", y="1"), "26 26 0")

    def test_outward(self):
        # The point is o'd to from 0 to 1/2; less 1/3 its square is from 0 to 1/9.
        self.assertEqual(ask_fan(AIR, "1/3 0 0 0", x="1/3", p=1), "0 1/2 0")
        self.assertEqual(ask_fan(AIR, "1 0 0 0", x="1/3", p=0), "0 1 0")
        self.assertEqual(ask_fan(AIR, "1 0 0 0", x="1/3", p=2), "1/4 1/2 0")
        self.assertEqual(ask_fan(AIR, "0 1 0 0", y="1/3", p=4), "7/16 1/2 0")
        # Both squares are added before it is gone outward: 4/9 and 4/9.
        self.assertEqual(ask_fan(AIR, "1 1 0 0", x="1/3", y="1/3", p=2), "3/4 1 0")

    def test_the_greatest_ends_of_two_rays(self):
        sharp, blurred = "4 0 0 0", "0 0 4/3 0"
        for p in (4, 8, 40):
            one, other = [farthest(ask_fan(AIR, ray, z="3", p=p)) for ray in (sharp, blurred)]
            self.assertEqual(one, (16, 16))
            self.assertLess(other[0], 16)
            self.assertGreater(other[1], 16)
            for rays in (f"{sharp} {blurred}", f"{blurred} {sharp}", f"{blurred} {sharp} {AXIS}"):
                self.assertEqual(farthest(ask_fan(AIR, rays, z="3", p=p)), (16, other[1]))

    def test_ends_are_of_all_that_arrive_each_by_itself(self):
        rays = ("1 0 1/3 0", "0 1 0 2/3", "-2 0 -1/7 1/7", "1 1 1/2 -3", "3/2 0 0 0")
        for p in (3, 6, 30):
            alone = [farthest(ask_fan(SURFACE, ray, z="4", x="1", y="-1/2", p=p)) for ray in rays]
            together = farthest(ask_fan(SURFACE, " ".join(rays), z="4", x="1", y="-1/2", p=p))
            self.assertEqual(together, (max(lo for lo, hi in alone), max(hi for lo, hi in alone)))

    def test_rays_that_do_not_arrive_are_not_counted(self):
        system = AIR + "stop s after 3 clear 4;"
        self.assertEqual(ask_fan(system, "1 0 0 0 900 0 0 0"), "1 1 0 1")
        self.assertEqual(ask_fan(system, "900 0 0 0 1 0 0 0"), "1 1 1 0")
        self.assertEqual(ask_fan(system, "0 0 4/3 0 1 0 0 0"), "1 1 2 0")
        self.assertEqual(ask_fan(system, "1 0 0 0 0 0 4/3 0 0 0 0 9", x="1"), "0 0 0 2 1")

    def test_none_arrives(self):
        system = AIR + "stop s after 3 clear 4;"
        for place in (("0", "0"), ("5", "-7/3")):
            self.assertEqual(ask_fan(system, "900 0 0 0", x=place[0], y=place[1]), "0 0 1")
            self.assertEqual(ask_fan(system, "0 0 4/3 0", x=place[0], y=place[1]), "0 0 2")
            self.assertEqual(ask_fan(system, "0 0 4/3 0 5 0 0 0 0 -5 0 0", x=place[0], y=place[1]), "0 0 2 1 1")

    def test_the_last_ray_is_told_and_counted(self):
        for count in (1, 2, 3, 255):
            rays = " ".join(["1 0 0 0"] * count + ["9 0 0 0"])
            self.assertEqual(ask_fan(AIR, rays), "81 81" + " 0" * (count + 1))
            self.assertEqual(ask_fan(AIR + "stop s after 1 clear 5;", rays), "1 1" + " 0" * count + " 1")


class Near(unittest.TestCase):
    def near(self, square, system, rays, p=100, **asked):
        answer = ask_fan(system, rays, p=p, **asked)
        self.assertEqual(set(fates(answer)), {"0"} if len(fates(answer)) == 1 else {"0", " "}, (system, rays))
        lo, hi = farthest(answer)
        self.assertLessEqual(lo, square)
        self.assertLessEqual(square, hi)
        self.assertLess(hi - lo, Fraction(1, 2 ** (p - 20)))

    def test_slopes(self):
        self.near(25, AIR, "0 0 4/3 1", z="3")
        self.near(20, AIR, "0 0 4/3 0", z="3", y="2")
        self.near(17, AIR, "0 0 0 4/3 1 0 0 0 1 0 0 1", z="-3", x="-1")

    def test_each_line(self):
        system = "glass a:1,1,1;glass b:1,4/3,2;start a;surface s after 0 into b flat;"
        for line, square in enumerate((Fraction(256, 9), Fraction(9), Fraction(64, 21))):
            self.near(square, system, "0 0 4/3 0", z="4", line=line)
            self.near(square, system, "0 0 0 -4/3 0 0 0 0", z="4", line=line)

    def test_mirrors_and_the_planes_sign(self):
        self.near(100, MIRROR, "0 0 1 0", z="-5")
        self.near(4, MIRROR, "0 0 1 0", z="3")
        self.near(25, MIRROR, "0 0 0 1", z="0")
        self.near(100, MIRROR + "mirror n after 2 flat;", "0 0 0 1", z="3")
        self.near(16, MIRROR + "mirror n after 2 flat;", "0 0 1 0", z="-3")
        self.near(81, MIRROR + "stop n after 2;", "0 0 1 0", z="-2")

    def test_the_plane_is_behind_the_last_vertex(self):
        self.near(49, AIR + "stop s after 2;stop t after 4;", "0 0 1 0", z="1")
        self.near(1, AIR + "stop s after 2;stop t after 4;", "0 0 1 0", z="-5")

    def test_a_parabola_brings_all_to_its_focus(self):
        rays = "0 0 0 0 1 0 0 0 3/2 -1 0 0 0 -1.25 0 0 1/3 2/7 0 0"
        self.near(0, AIR + "mirror m after 5 curve -1/2 conic -1;", rays, z="-1")
        self.near(13, AIR + "mirror m after 5 curve -1/2 conic -1;", rays, z="-1", x="-2", y="3")

    def test_an_ellipse_brings_all_to_its_focus_in_glass(self):
        system = "glass a:1,1,1;glass g:3/2,3/2,3/2;start a;surface s after 2 into g radius 10 conic -4/9;"
        self.near(0, system, "0 0 0 0 1 0 0 0 -3 2 0 0 0 5.5 0 0", z="30")

    def test_no_part(self):
        for p in (0, 1, 8, 255, 256):
            self.assertEqual(ask_fan(AIR, "1 2 0 0 -3 0 0 0", z="-9", p=p), "9 9 0 0")
        self.near(74, AIR, "1 2 2 5/2", z="2")


class Finenesses(unittest.TestCase):
    def test_all_from_0_to_256(self):
        parts = [surface(1, "3/2", "1/10", "-1/2", 5), mirror(2, "-1/20", 0)]
        starts = [(0, 1, 0, 0), ("1/3", 0, "1/7", "-1/9"), (6, 0, 0, 0), (0, "4.99", 0, 0), (5, 0, 0, 0)]
        system = oracle.text_of(parts, 1)
        rays = " ".join(str(number) for start in starts for number in start)
        seen = {}
        for p in range(257):
            answer = ask_fan(system, rays, z="-8", x="1/3", y="-1/7", p=p)
            self.assertEqual(answer, oracle.fan(parts, 1, starts, -8, ("1/3", "-1/7"), p), p)
            seen[fates(answer)] = True
        self.assertGreater(len(seen), 2)


class TooGreat(unittest.TestCase):
    RAY = f"{WIDENED_RAY['x']} 0 0 0"

    def wide(self, stops, rays):
        return ask_fan(widening(stops), rays, z=WIDENED_RAY["z"], p=WIDENED_RAY["p"])

    def test_a_number_too_great_to_be_told(self):
        answers = [self.wide(stops, self.RAY) for stops in range(0, 40)]
        told = [answer for answer in answers if isinstance(answer, str)]
        self.assertGreater(len(told), 3)
        self.assertEqual(answers[len(told):], [[-6]] * (len(answers) - len(told)))
        self.assertGreater(len(answers), len(told))
        lo, hi = farthest(told[-1])
        self.assertLess(hi.numerator, 2 ** 4096)
        self.assertGreater(hi.numerator, 2 ** 3500)

    def test_the_length_may_be_told_where_the_square_is_not(self):
        self.assertEqual(self.wide(25, self.RAY), [-6])
        lo, hi = ends(ask(widening(25), **WIDENED_RAY))
        self.assertLess(lo, hi)

    def test_one_such_ray_of_several(self):
        self.assertEqual(fates(self.wide(25, AXIS)), "0")
        self.assertEqual(self.wide(25, f"{AXIS} {self.RAY}"), [-6])
        self.assertEqual(self.wide(25, f"{self.RAY} {AXIS}"), [-6])
        # Where it's left open, nothing too great is to be told.
        system = widening(25) + "stop t after 1 clear 1;"
        answer = ask_fan(system, f"{self.RAY} {AXIS}", z=WIDENED_RAY["z"], p=WIDENED_RAY["p"])
        self.assertEqual(fates(answer), "2 0")


if __name__ == "__main__":
    unittest.main()
