"""What the tests share: texts as lists of bytes, and the calls as one asks them by hand."""

from fractions import Fraction

from raypaths.rays import fan, path

AIR = "glass air:1,1,1;start air;"
WIDENED_RAY = {"x": "1/100000000000000000", "z": "-1", "p": 256}


def bytes_of(text):
    return list(text.encode("latin-1"))


def ask(system, x="0", y="0", u="0", v="0", z="0", p=8, line=0):
    """path's answer: a text, or the list that refuses."""
    handed = [bytes_of(number) for number in (x, y, u, v, z)]
    return text_told(path(line, p, bytes_of(system), *handed))


def ask_fan(system, rays, z="0", x="0", y="0", p=8, line=0):
    """fan's answer: a text, or the list that refuses."""
    handed = [bytes_of(text) for text in (system, rays, z, x, y)]
    return text_told(fan(line, p, *handed))


def text_told(answer):
    if answer[0] < 0:
        return answer
    if answer[0] != len(answer) - 1:
        raise AssertionError(f"{answer[0]} bytes are told, {len(answer) - 1} follow")
    return bytes(answer[1:]).decode("ascii")


def ends(answer):
    """lo and hi of an answered text."""
    lo, hi = answer.split(" ")
    return Fraction(lo), Fraction(hi)


def farthest(answer):
    """lo and hi of a fan's answered text."""
    return ends(" ".join(answer.split(" ")[:2]))


def fates(answer):
    """Of a fan's answered text, as one writes them: "0 0 1"."""
    return " ".join(answer.split(" ")[2:])


def widening(stops):
    """Mirrors that widen the ray's way until its z reaches from near 0 to 1, and then stops that widen its point."""
    return (AIR + "mirror a after 0 curve -1/50000000000000000 conic -1;"
            "mirror b after 25000000000000000 curve 100000000000000000 conic -1;"
            "mirror c after 25000000000000000 curve -1/25000000000000000 conic -1;"
            "mirror d after 25000000000000000 curve 100000000000000000 conic -1;"
            "mirror e after 1000000000 curve 172765841756884418/261106113337590957 conic -1;"
            + "".join(f"stop s{i} after 1;" for i in range(stops)))
