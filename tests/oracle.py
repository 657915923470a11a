"""The document's steps once more, over Python's fractions: slow, plain, and apart from the package."""

from fractions import Fraction
from math import ceil, floor, isqrt


class Gone(Exception):
    """The ray doesn't get through; args: fails or open, and which step says so."""


class Interval:
    def __init__(self, lo, hi=None):
        self.lo = Fraction(lo)
        self.hi = self.lo if hi is None else Fraction(hi)

    def __add__(self, other):
        other = interval(other)
        return Interval(self.lo + other.lo, self.hi + other.hi)

    __radd__ = __add__

    def __neg__(self):
        return Interval(-self.hi, -self.lo)

    def __sub__(self, other):
        return self + (-interval(other))

    def __rsub__(self, other):
        return interval(other) - self

    def __mul__(self, other):
        other = interval(other)
        products = [a * b for a in (self.lo, self.hi) for b in (other.lo, other.hi)]
        return Interval(min(products), max(products))

    __rmul__ = __mul__

    def __truediv__(self, other):
        other = interval(other)
        return self * Interval(1 / other.hi, 1 / other.lo)

    def __rtruediv__(self, other):
        return interval(other) / self

    def squared(self):
        both = [self.lo ** 2, self.hi ** 2]
        return Interval(0 if 0 in self else min(both), max(both))

    def __contains__(self, number):
        return self.lo <= number <= self.hi


def interval(value):
    return value if isinstance(value, Interval) else Interval(value)


def outward_to(p):
    unit = Fraction(1, 2 ** p)
    return lambda a: Interval(floor(interval(a).lo / unit) * unit, ceil(interval(a).hi / unit) * unit)


def root_to(p):
    def root(a):
        low = isqrt(floor(a.lo * 4 ** p))
        high = isqrt(ceil(a.hi * 4 ** p))
        if high ** 2 < a.hi * 4 ** p:
            high += 1
        return Interval(Fraction(low, 2 ** p), Fraction(high, 2 ** p))
    return root


def fails(step):
    raise Gone("fails", step)


def left_open(step):
    raise Gone("open", step)


def across(o, c, k, point):
    x, y, z = point
    return o((-c) * x), o((-c) * y), o(1 + (-(c * (1 + k))) * z)


def times(a, b):
    return a[0] * b[0] + a[1] * b[1] + a[2] * b[2]


def arrival(parts, medium, start, plane, p):
    """The point in the plane, and how long it is to there, as intervals.

    A part: dict of kind, gap, n (a surface's), c, k, clear (None: anywhere); medium is an index."""
    o, root = outward_to(p), root_to(p)
    x, y, u, v = [interval(number) for number in start]
    w = root(o(1 + u * u + v * v))
    dz = o(1 / w)
    d = [o(u * dz), o(v * dz), dz]
    point, way_long, n, s = [x, y, interval(0)], interval(0), Fraction(medium), 1
    for part in parts:
        c, k = Fraction(part["c"]), Fraction(part["k"])
        x, y, z = point
        z = o(z + (-(s * Fraction(part["gap"]))))
        a = across(o, c, k, (x, y, z))
        S = o(2 * z - c * (x.squared() + y.squared() + (1 + k) * z.squared()))
        G = o(times(a, d))
        Q = o(d[0].squared() + d[1].squared() + (1 + k) * d[2].squared())
        R = o(G.squared() + (c * S) * Q)
        if R.hi < 0:
            fails("misses")
        if R.lo <= 0:
            left_open("R")
        W = s * root(R)
        H = o(G + W)
        if c == 0 and (s * G).hi < 0:
            fails("turned away")
        if c == 0 and (s * G).lo <= 0:
            left_open("s G")
        if 0 not in H:
            T = o((-S) / H)
        elif c != 0 and 0 not in Q:
            T = o((G - W) / (c * Q))
        else:
            left_open("H")
        point = [o(x + T * d[0]), o(y + T * d[1]), o(z + T * d[2])]
        way_long = o(way_long + n * T)
        a = across(o, c, k, point)
        if a[2].hi <= 0:
            fails("far side")
        if a[2].lo <= 0:
            left_open("A's z")
        if part["clear"] is not None:
            U = o(point[0].squared() + point[1].squared())
            if U.lo > Fraction(part["clear"]) ** 2:
                fails("blocked")
            if U.hi > Fraction(part["clear"]) ** 2:
                left_open("U")
        if part["kind"] == "stop":
            continue
        V = o(a[0].squared() + a[1].squared() + a[2].squared())
        M = o(times(a, d))
        if V.lo <= 0:
            left_open("V")
        if part["kind"] == "mirror":
            f = o(((-2) * M) / V)
            d = [o(d[i] + f * a[i]) for i in range(3)]
            s = -s
            continue
        m = Fraction(part["n"])
        B = o((n * n) * M.squared() + (m * m - n * n) * V)
        if B.hi < 0:
            fails("thrown back")
        if B.lo <= 0:
            left_open("B")
        j = o((s * root(B) - n * M) / V)
        F = [o(n * d[i] + j * a[i]) for i in range(3)]
        d = [o(F[i] * (1 / m)) for i in range(3)]
        n = m
    if 0 in d[2]:
        left_open("plane")
    T = o((Fraction(plane) - point[2]) / d[2])
    point = [o(point[i] + T * d[i]) for i in range(3)]
    return point, o(way_long + n * T)


def length(parts, medium, start, plane, p):
    """lo and hi."""
    way_long = arrival(parts, medium, start, plane, p)[1]
    return way_long.lo, way_long.hi


def fan(parts, medium, starts, plane, place, p):
    """The text that is told: the farthest's lo and hi, and each ray's fate."""
    o = outward_to(p)
    lows, highs, fates = [Fraction(0)], [Fraction(0)], []
    for start in starts:
        try:
            x, y, z = arrival(parts, medium, start, plane, p)[0]
        except Gone as gone:
            fates.append({"fails": "1", "open": "2"}[gone.args[0]])
            continue
        fates.append("0")
        far = o((x - Fraction(place[0])).squared() + (y - Fraction(place[1])).squared())
        lows.append(far.lo)
        highs.append(far.hi)
    return " ".join([str(max(lows)), str(max(highs))] + fates)


def text_of(parts, medium):
    """The system's text: one glass for each index, alike for all lines; every other part by its radius, if it has one."""
    indices = [Fraction(medium)]
    for part in parts:
        if part["kind"] == "surface" and Fraction(part["n"]) not in indices:
            indices.append(Fraction(part["n"]))
    rows = [f"glass g{i}:{n},{n},{n};" for i, n in enumerate(indices)] + ["start g0;"]
    for i, part in enumerate(parts):
        row = f"{part['kind']} e{i} after {part['gap']}"
        if part["kind"] == "surface":
            row += f" into g{indices.index(Fraction(part['n']))}"
        if part["kind"] != "stop":
            row += f" radius {1 / part['c']}" if i % 2 and part["c"] else f" curve {part['c']}"
            row += f" conic {part['k']}"
        if part["clear"] is not None:
            row += f" clear {part['clear']}"
        rows.append(row + ";")
    return "\n".join(rows)
