"""Faults of texts changed at random: all of them gathered, and the first by place, then by kind, taken."""

import random
import re
import unittest

from tests.helpers import ask, bytes_of

WORDS = "after clear conic curve flat glass into mirror radius start stop surface".split()
BLANK = re.compile(rb"(?:[ \t\n\r]|#[^\n]*)*")
ROW = re.compile(rb"[A-Za-z_][A-Za-z0-9_]*")
NUMBER = re.compile(rb"[0-9]+(?:\.[0-9]+)?(?![A-Za-z0-9_.])")


def tokens(data):
    """(kind, place, value), up to the end or to a place where none begins."""
    at = BLANK.match(data).end()
    while at < len(data):
        row, number = ROW.match(data, at), NUMBER.match(data, at)
        if row and len(row.group()) <= 32:
            text = row.group().decode()
            yield (text if text in WORDS else "name"), at, text
            end = row.end()
        elif number and sum(byte != 46 for byte in number.group()) <= 18:
            text = number.group().decode()
            yield ("pointed" if "." in text else "whole"), at, text
            end = number.end()
        elif data[at:at + 1] in (b":", b",", b";", b"/", b"-"):
            yield data[at:at + 1].decode(), at, None
            end = at + 1
        else:
            yield "none", at, None
            return
        at = BLANK.match(data, end).end()
    yield "end", len(data), None


class Halt(Exception):
    pass


class Check:
    """Gathers faults, and goes on behind all but the first two kinds."""

    def __init__(self, data):
        self.rest = list(tokens(data))
        self.faults = []

    def at(self, *kinds):
        return self.rest[0][0] in kinds

    def take(self, *kinds):
        kind, place, value = self.rest[0]
        if kind not in kinds:
            self.faults.append((place, 1 if kind == "none" else 2))
            raise Halt()
        del self.rest[0]
        return place, value

    def number(self, bad=lambda above, below: False):
        pointed = self.at("pointed")
        above, below = float(self.take("whole", "pointed")[1]), 1
        if not pointed and self.at("/"):
            self.take("/")
            place, value = self.take("whole")
            below = int(value)
            if below == 0:
                self.faults.append((place, 6))
                return
        if bad(above, below):
            self.faults.append((self.rest[0][1], 6))

    def value(self, bad=lambda above, below: False):
        if self.at("-"):
            self.take("-")
        self.number(bad)

    def name(self, seen):
        place, name = self.take("name")
        if name in seen:
            self.faults.append((place, 3))
        seen.append(name)

    def glass_name(self, glasses):
        place, name = self.take("name")
        if name not in glasses:
            self.faults.append((place, 4))

    def count(self, seen):
        if len(seen) >= 64:
            self.faults.append((self.rest[0][1], 5))

    def shape(self):
        kind = self.rest[0][0]
        self.take("flat", "curve", "radius")
        if kind == "curve":
            self.value()
        if kind == "radius":
            self.value(lambda above, below: above == 0)
        if self.at("conic"):
            self.take("conic")
            self.value()

    def part(self, glasses, seen):
        kind = self.rest[0][0]
        self.count(seen) if kind in ("surface", "mirror", "stop") else None
        self.take("surface", "mirror", "stop")
        self.name(seen)
        self.take("after")
        self.number()
        if kind == "surface":
            self.take("into")
            self.glass_name(glasses)
        if kind != "stop":
            self.shape()
        if self.at("clear"):
            self.take("clear")
            self.number(lambda above, below: above == 0)
        self.take(";")

    def system(self):
        glasses, seen = [], []
        while not glasses or not self.at("start"):
            self.count(glasses) if self.at("glass") else None
            self.take(*(("glass", "start") if glasses else ("glass",)))
            self.name(glasses)
            for mark in ":,,":
                self.take(mark)
                self.number(lambda above, below: above < below)
            self.take(";")
        self.take("start")
        self.glass_name(glasses)
        self.take(";")
        while not self.at("end"):
            self.part(glasses, seen)

    def first(self):
        try:
            self.system()
        except Halt:
            pass
        return min(self.faults, default=None)


SEEDS = (
    "glass air:1,1,1;glass g:3/2,1.6,17/10;start air;surface a after 0 into g curve 1/10;stop b after 2 clear 1;",
    "# a lens\nglass a:1,1,1;\nglass b:1.5,1.5,1.5;\nstart a;\nsurface s after 5 into b radius 20 conic -1 clear 4;\n"
    "surface t after 1/2 into a radius -0.5;mirror m after 3 flat conic 1;mirror n after 2 curve -1/7 clear 3;",
)
SCRAPS = WORDS + [
    "a", "b", "g", "s", "x" * 32, "x" * 33, "0", "00", "1", "0.0", "0.5", "1/0", "0/1", "1" * 18, "1" * 19, "2.", ".5",
    "1a", ":", ",", ";", "/", "-", "#", "\n", " ", "\t", "\x00", "\xff", "?", "radius 0", "clear 0", "after 1", "0 ;",
    "glass a:1,1,1;", "start a;", "stop q after 1;", "conic 1", "into a", "into q", "glass q:0,1,1;", "flat",
]


def changed(rng, text):
    for _ in range(rng.randint(1, 3)):
        at = rng.randint(0, len(text))
        cut = rng.choice((0, 0, 1, 1, 2, 5, 20))
        scrap = rng.choice(SCRAPS + [""] * 10)
        around = rng.choice(("", " "))
        text = text[:at] + around + scrap + around + text[at + cut:]
    return text


class FaultOrder(unittest.TestCase):
    def compare(self, text):
        first = Check(bytes(bytes_of(text))).first()
        answer = ask(text, p=1)
        if first is None:
            self.assertNotIn(answer[0], (-1, -3), text)
        else:
            self.assertEqual(answer, [-3, *first], text)
        return first and first[1]

    def test_changed_texts(self):
        rng = random.Random(5)
        kinds = {}
        for _ in range(6000):
            kind = self.compare(changed(rng, rng.choice(SEEDS)))
            kinds[kind] = kinds.get(kind, 0) + 1
        for kind in (None, 1, 2, 3, 4, 6):
            self.assertGreater(kinds.get(kind, 0), 5, kind)

    def test_scraps_in_a_row(self):
        rng = random.Random(6)
        for _ in range(1500):
            self.compare(" ".join(rng.choice(SCRAPS) for _ in range(rng.randint(0, 8))))

    def test_long_texts(self):
        rng = random.Random(7)
        glasses = "".join(f"glass g{i}:1,1,1;" for i in range(64))
        stops = "".join(f"stop s{i} after 0;" for i in range(64))
        kinds = [self.compare(changed(rng, glasses + "start g5;" + stops)) for _ in range(150)]
        kinds += [self.compare(glasses + "glass x:1,1,1;" * count + "start g5;" + stops + "stop y after 1;" * more)
                  for count in (0, 1) for more in (0, 1)]
        self.assertIn(5, kinds)


if __name__ == "__main__":
    unittest.main()
