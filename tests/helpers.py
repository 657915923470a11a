"""What the tests share: texts as lists of bytes, and the call as one asks it by hand."""

from fractions import Fraction

from raypaths.rays import path

AIR = "glass air:1,1,1;start air;"
WIDENED_RAY = {"x": "1/100000000000000000", "z": "-1", "p": 256}


def bytes_of(text):
    return list(text.encode("latin-1"))


def ask(system, x="0", y="0", u="0", v="0", z="0", p=8, line=0):
    """path's answer: a text, or the list that refuses."""
    handed = [bytes_of(number) for number in (x, y, u, v, z)]
    answer = path(line, p, bytes_of(system), *handed)
    if answer[0] < 0:
        return answer
    if answer[0] != len(answer) - 1:
        raise AssertionError(f"{answer[0]} bytes are told, {len(answer) - 1} follow")
    return bytes(answer[1:]).decode("ascii")


def ends(answer):
    """lo and hi of an answered text."""
    lo, hi = answer.split(" ")
    return Fraction(lo), Fraction(hi)


def widening(stops):
    """Mirrors that widen the ray's way until its z reaches from near 0 to 1, and then stops that widen its point."""
    return (AIR + "mirror a after 0 curve -1/50000000000000000 conic -1;"
            "mirror b after 25000000000000000 curve 100000000000000000 conic -1;"
            "mirror c after 25000000000000000 curve -1/25000000000000000 conic -1;"
            "mirror d after 25000000000000000 curve 100000000000000000 conic -1;"
            "mirror e after 1000000000 curve 172765841756884418/261106113337590957 conic -1;"
            + "".join(f"stop s{i} after 1;" for i in range(stops)))
