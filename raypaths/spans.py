"""Intervals with exact ends: two whole numbers above one denominator, which is above 0."""


class Span:
    def __init__(self, lo, hi, den):
        self.lo = lo
        self.hi = hi
        self.den = den


def exact(number):
    return Span(number[0], number[0], number[1])


def whole(number):
    return Span(number, number, 1)


def is_zero(a):
    return a.lo == 0 and a.hi == 0


def holds_zero(a):
    return a.lo <= 0 <= a.hi


def plus(a, b):
    # Most sums are of multiples of one fineness: their denominators needn't grow.
    if a.den == b.den:
        return Span(a.lo + b.lo, a.hi + b.hi, a.den)
    return Span(a.lo * b.den + b.lo * a.den, a.hi * b.den + b.hi * a.den, a.den * b.den)


def negative(a):
    return Span(-a.hi, -a.lo, a.den)


def minus(a, b):
    return plus(a, negative(b))


def times(a, b):
    products = (a.lo * b.lo, a.lo * b.hi, a.hi * b.lo, a.hi * b.hi)
    return Span(min(products), max(products), a.den * b.den)


def square(a):
    low = a.lo * a.lo
    high = a.hi * a.hi
    return Span(0 if holds_zero(a) else min(low, high), max(low, high), a.den * a.den)


# Only of an interval without 0: its ends have one sign then, so their product is fit to be a denominator.
def inverse(a):
    return Span(a.den * a.lo, a.den * a.hi, a.lo * a.hi)


def over(a, b):
    return times(a, inverse(b))


def is_above(a, number):
    return a.lo * number.den > number.hi * a.den


def reaches_above(a, number):
    return a.hi * number.den > number.lo * a.den


def divide_up(above, below):
    return -(-above // below)


def outward(a, p):
    return Span((a.lo << p) // a.den, divide_up(a.hi << p, a.den), 1 << p)


def whole_root(number):
    if number == 0:
        return 0
    # Newton's steps come down to the root, and only to it, from a guess that isn't below it.
    guess = 1 << ((number.bit_length() + 1) // 2)
    nearer = (guess + number // guess) // 2
    while nearer < guess:
        guess = nearer
        nearer = (guess + number // guess) // 2
    return guess


def whole_root_up(number):
    return 0 if number == 0 else whole_root(number - 1) + 1


# Only of an interval that doesn't reach below 0.
def root(a, p):
    low = whole_root((a.lo << (2 * p)) // a.den)
    high = whole_root_up(divide_up(a.hi << (2 * p), a.den))
    return Span(low, high, 1 << p)
