"""Intervals: exact sums, products, squares and quotients; outward; roots."""

import random
import unittest
from fractions import Fraction

from raypaths import spans
from raypaths.spans import Span
from tests import oracle
from tests.oracle import Interval


def both(span):
    return Fraction(span.lo, span.den), Fraction(span.hi, span.den)


class Spans(unittest.TestCase):
    def draw(self, rng):
        den = rng.choice((1, 2, 3, 8, 10, 64))
        lo, hi = sorted(rng.randint(-20, 20) for _ in range(2))
        return Span(lo, hi, den), Interval(Fraction(lo, den), Fraction(hi, den))

    def same(self, span, interval):
        self.assertGreater(span.den, 0)
        self.assertEqual(both(span), (interval.lo, interval.hi))

    def test_reckoning(self):
        rng = random.Random(12)
        for _ in range(3000):
            a, one = self.draw(rng)
            b, other = self.draw(rng)
            self.same(spans.plus(a, b), one + other)
            self.same(spans.minus(a, b), one - other)
            self.same(spans.times(a, b), one * other)
            self.same(spans.square(a), one.squared())
            self.assertEqual(spans.holds_zero(a), 0 in one)
            if 0 not in other:
                self.same(spans.over(a, b), one / other)
            p = rng.choice((0, 1, 2, 5))
            self.same(spans.outward(a, p), oracle.outward_to(p)(one))
            if a.lo >= 0:
                self.same(spans.root(a, p), oracle.root_to(p)(one))

    def test_squares_of_intervals_about_zero(self):
        self.assertEqual(both(spans.square(Span(-3, 2, 1))), (0, 9))
        self.assertEqual(both(spans.square(Span(-3, 0, 1))), (0, 9))
        self.assertEqual(both(spans.square(Span(-3, -2, 1))), (4, 9))
        self.assertEqual(both(spans.square(Span(2, 3, 2))), (1, Fraction(9, 4)))

    def test_whole_roots(self):
        for number in list(range(300)) + [10 ** 40 - 1, 10 ** 40, 10 ** 40 + 1, 2 ** 999, 4 ** 500 - 1, 4 ** 500]:
            low, high = spans.whole_root(number), spans.whole_root_up(number)
            self.assertTrue(low ** 2 <= number < (low + 1) ** 2, number)
            self.assertTrue(number <= high ** 2 and (high == 0 or (high - 1) ** 2 < number), number)


if __name__ == "__main__":
    unittest.main()
