"""Lengths and fans against light's own laws: enclosed (2), stationary (3), and the same at all finenesses (4)."""

import random
import unittest
from decimal import Decimal, localcontext
from fractions import Fraction

from raypaths.spans import exact
from raypaths.systems import read_system
from raypaths.tracing import go_to_plane, pass_part, start_ray
from tests import drawing, oracle
from tests.helpers import ask, ask_fan, bytes_of, ends, farthest, fates

DIGITS = 60


def decimal(number):
    number = Fraction(number)
    return Decimal(number.numerator) / Decimal(number.denominator)


def inner(a, b):
    return sum((one * other for one, other in zip(a, b)), Decimal(0))


def unit(a):
    size = inner(a, a).sqrt()
    return [number / size for number in a]


def meeting(c, k, point, way):
    """How far it is to the shell, to each of its points on the ray's line."""
    a = c * (way[0] ** 2 + way[1] ** 2 + (1 + k) * way[2] ** 2)
    b = 2 * c * (point[0] * way[0] + point[1] * way[1] + (1 + k) * point[2] * way[2]) - 2 * way[2]
    e = c * (point[0] ** 2 + point[1] ** 2 + (1 + k) * point[2] ** 2) - 2 * point[2]
    if abs(a) < Decimal(10) ** -40:
        return [-e / b] if b else []
    if b * b < 4 * a * e:
        return []
    inside = (b * b - 4 * a * e).sqrt()
    return [(-b - inside) / (2 * a), (-b + inside) / (2 * a)]


def met_at(c, k, point, way, sign):
    """How far, the point and the unit normal there: of the part by the vertex, met from outside. None: it misses."""
    for far in meeting(c, k, point, way):
        met = [one + far * other for one, other in zip(point, way)]
        normal = unit([-c * met[0], -c * met[1], 1 - c * (1 + k) * met[2]])
        if normal[2] > 0 and inner(normal, way) * sign > 0:
            return far, met, normal
    return None


def true_end(parts, medium, start, plane):
    """By textbook optics, with unit normals and cosines: the point in the plane and the length. None: it is lost."""
    x, y, u, v = [decimal(number) for number in start]
    point, way = [x, y, Decimal(0)], unit([u, v, Decimal(1)])
    n, sign, total = decimal(medium), 1, Decimal(0)
    for part in parts:
        c, k = decimal(part["c"]), decimal(part["k"])
        point[2] -= sign * decimal(part["gap"])
        found = met_at(c, k, point, way, sign)
        if found is None:
            return None
        far, point, normal = found
        total += n * far
        if part["clear"] is not None and point[0] ** 2 + point[1] ** 2 > decimal(part["clear"]) ** 2:
            return None
        cosine = inner(normal, way)
        if part["kind"] == "mirror":
            way, sign = [one - 2 * cosine * other for one, other in zip(way, normal)], -sign
        if part["kind"] == "surface":
            ratio = n / decimal(part["n"])
            if ratio * ratio * (1 - cosine * cosine) > 1:
                return None
            behind = sign * (1 - ratio * ratio * (1 - cosine * cosine)).sqrt()
            way = [ratio * one + (behind - ratio * cosine) * other for one, other in zip(way, normal)]
            n = decimal(part["n"])
    far = (decimal(plane) - point[2]) / way[2]
    return [one + far * other for one, other in zip(point, way)], total + n * far


class Lengths(unittest.TestCase):
    def answer(self, case, p):
        parts, medium, start, plane = case
        x, y, u, v = [str(number) for number in start]
        return ask(oracle.text_of(parts, medium), x, y, u, v, str(plane), p)

    def test_the_length_lies_between(self):
        rng = random.Random(8)
        arrived = 0
        with localcontext() as context:
            context.prec = DIGITS
            slack = Fraction(1, 10 ** 40)
            while arrived < 150:
                case = drawing.case(rng)
                answers = [self.answer(case, p) for p in (12, 30, 100)]
                if not isinstance(answers[2], str):
                    continue
                arrived += 1
                length = Fraction(true_end(*case)[1])
                for answer in answers:
                    if isinstance(answer, str):
                        lo, hi = ends(answer)
                        self.assertLessEqual(lo, length + slack, case)
                        self.assertLessEqual(length - slack, hi, case)
                self.assertLess(ends(answers[2])[1] - ends(answers[2])[0], Fraction(1, 10 ** 10), case)

    def test_finenesses_never_tell_lengths_apart(self):
        rng = random.Random(9)
        for _ in range(150):
            case = drawing.case(rng, steep=rng.random() < 0.3)
            spans = [ends(answer) for answer in (self.answer(case, p) for p in (0, 2, 5, 9, 17, 33, 80, 256))
                     if isinstance(answer, str)]
            if spans:
                self.assertLessEqual(max(lo for lo, hi in spans), min(hi for lo, hi in spans), case)

    def test_the_two_numbers_stand_in_order(self):
        rng = random.Random(10)
        for _ in range(200):
            answer = self.answer(drawing.case(rng), rng.randint(0, 40))
            if isinstance(answer, str):
                lo, hi = ends(answer)
                self.assertLessEqual(lo, hi)


class Fans(unittest.TestCase):
    SLACK = Fraction(1, 10 ** 30)

    def drawn(self, rng, steep):
        parts, medium, _, plane = drawing.case(rng, steep)
        starts = [drawing.case(rng, steep)[2] for _ in range(rng.randint(1, 6))]
        place = [drawing.fraction(rng, 3, 7) for _ in range(2)]
        return parts, medium, starts, plane, place

    def answer(self, parts, medium, starts, plane, place, p):
        rays = " ".join(str(number) for start in starts for number in start)
        return ask_fan(oracle.text_of(parts, medium), rays, str(plane), str(place[0]), str(place[1]), p)

    def squares(self, case, told):
        """How far each ray that's told to arrive truly comes to; and every fate is held against the true one."""
        parts, medium, starts, plane, place = case
        found = []
        for start, fate in zip(starts, told):
            if fate == "2":
                continue
            end = true_end(parts, medium, start, plane)
            self.assertEqual(end is None, fate == "1", (case, start))
            if fate == "0":
                found.append(sum(Fraction(one - decimal(other)) ** 2 for one, other in zip(end[0], place)))
        return found

    def test_what_is_told_is_true(self):
        rng = random.Random(21)
        seen = {"0": 0, "1": 0, "2": 0}
        with localcontext() as context:
            context.prec = DIGITS
            for turn in range(250):
                case = self.drawn(rng, steep=turn % 2 == 1)
                for p in (2, 7, 20, 90):
                    answer = self.answer(*case, p)
                    told = fates(answer).split(" ")
                    self.assertEqual(len(told), len(case[2]))
                    squares = self.squares(case, told)
                    lo, hi = farthest(answer)
                    self.assertTrue(0 <= lo <= hi)
                    self.assertLessEqual(max(squares, default=0), hi + self.SLACK, (case, p))
                    self.assertGreaterEqual(max(squares, default=0), lo - self.SLACK, (case, p))
                    for fate in told:
                        seen[fate] += 1
        self.assertGreater(min(seen.values()), 400)

    def test_finenesses_never_tell_a_ray_to_arrive_and_to_fail(self):
        rng = random.Random(22)
        decided = {"0": 0, "1": 0}
        for turn in range(120):
            case = self.drawn(rng, steep=turn % 3 > 0)
            answers = [fates(self.answer(*case, p)).split(" ") for p in (0, 1, 3, 5, 9, 17, 33, 80, 256)]
            for told in zip(*answers):
                self.assertFalse("0" in told and "1" in told, (case, told))
                for fate in set(told) & set(decided):
                    decided[fate] += 1
        self.assertGreater(min(decided.values()), 80)

    def test_finenesses_never_tell_the_farthest_apart(self):
        rng = random.Random(23)
        compared = 0
        for turn in range(120):
            case = self.drawn(rng, steep=turn % 3 == 0)
            answers = [self.answer(*case, p) for p in (1, 4, 8, 16, 40, 100, 256)]
            spans = [farthest(answer) for answer in answers if fates(answer) == fates(answers[-1])]
            self.assertLessEqual(max(lo for lo, hi in spans), min(hi for lo, hi in spans), case)
            compared += len(spans) - 1
        self.assertGreater(compared, 200)


LENS = ("glass a:1,1,1;glass b:3/2,3/2,3/2;glass c:8/5,8/5,8/5;start a;surface s after 5 into b radius 7 conic -1/2;"
        "surface t after 1 into c curve -1/5;surface q after 1/2 into a radius -9 conic 2;")
FOLDED = ("glass a:1,1,1;glass b:3/2,3/2,3/2;start a;surface s after 2 into b curve 1/9;"
          "mirror m after 3 radius -8 conic -1/2;surface t after 3 into a curve 1/7;mirror o after 2 flat;")


class Fermat(unittest.TestCase):
    """The ray's own points, by the package's steps; then others on the shells beside them."""

    def points(self, system, start, plane):
        """Each point by the vertex it lies at, the vertex's place on the axis, and the index before it."""
        ray = start_ray(start, exact(system.medium[0]), 200)
        found, place = [(self.middle(ray), Decimal(0), decimal(Fraction(*system.medium[0])))], Decimal(0)
        for part in system.parts:
            place += ray.sign * decimal(Fraction(*part.gap))
            index = decimal(Fraction(ray.size.lo, ray.size.den))
            pass_part(ray, part, 0)
            found.append((self.middle(ray), place, index))
        go_to_plane(ray, exact(plane))
        found.append((self.middle(ray), place, decimal(Fraction(ray.size.lo, ray.size.den))))
        return found

    def middle(self, ray):
        return [decimal(Fraction(span.lo + span.hi, 2 * span.den)) for span in ray.point]

    def beside(self, part, point, shift):
        """The shell's point whose x and y are shifted."""
        c, k = decimal(Fraction(*part.curve)), decimal(Fraction(*part.conic))
        x, y = point[0] + shift[0], point[1] + shift[1]
        square = x * x + y * y
        return [x, y, c * square / (1 + (1 - (1 + k) * c * c * square).sqrt())]

    def broken(self, system, found, shifts):
        points = [found[0][0]]
        points += [self.beside(part, point, shift) for part, (point, _, _), shift in zip(system.parts, found[1:], shifts)]
        points.append(found[-1][0])
        placed = [[x, y, z + place] for (x, y, z), (_, place, _) in zip(points, found)]
        total = Decimal(0)
        for before, behind, (_, _, index) in zip(placed, placed[1:], found[1:]):
            step = [one - other for one, other in zip(behind, before)]
            total += index * inner(step, step).sqrt()
        return total

    def check(self, text, start, plane):
        rng = random.Random(11)
        system = read_system(bytes_of(text))
        with localcontext() as context:
            context.prec = DIGITS
            found = self.points(system, [(f.numerator, f.denominator) for f in map(Fraction, start)],
                                (Fraction(plane).numerator, Fraction(plane).denominator))
            lo, hi = [decimal(end) for end in ends(ask(text, *start, plane, p=200))]
            self.assertLess(hi - lo, Decimal(10) ** -40)
            for e in (Decimal(0), Decimal(10) ** -3, Decimal(10) ** -6, Decimal(10) ** -9):
                for _ in range(5):
                    shifts = [[e * rng.choice((-1, 0, 1)) for _ in range(2)] for _ in system.parts]
                    longer = self.broken(system, found, shifts) - lo
                    self.assertLess(abs(longer), 30 * e * e + Decimal(10) ** -38, (text, e))

    def test_through_a_lens(self):
        self.check(LENS, ("1", "1/2", "1/10", "-1/7"), "12")
        self.check(LENS, ("-1.5", "0", "1/5", "0.05"), "3/2")

    def test_between_mirrors(self):
        self.check(FOLDED, ("1", "-1/3", "1/20", "1/9"), "4")


if __name__ == "__main__":
    unittest.main()
