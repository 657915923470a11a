"""A fan's text: how many rays, what parts them, how long it is, and the numbers in it."""

import unittest

from tests.helpers import AIR, ask_fan

RAY = "0 0 0 0"
MOST_BYTES = 65536
NO_NUMBERS = (
    "", "-", "+1", "--1", "a", "1e3", "1,5", ".5", "5.", "/5", "5/", "1.2.3", "1/2/3", "1.2/3", "1/-2", "- 1", "\x00", "\xff",
    "1/0", "0/0", "1/000", "-1/00", "0" * 513, "-" + "0" * 512, "0." + "0" * 511, str(10 ** 18), str(-10 ** 18),
    f"1/{10 ** 18}", "0." + "0" * 17 + "1", f"{2 * 10 ** 18}/2", "7" * 1301,
)
NUMBERS = (
    "0", "-0", "007", "-7", "2.50", "-2.5", "3/4", "-6/008", "0" * 512, "-" + "0" * 511, "0." + "0" * 510,
    str(10 ** 18 - 1), str(1 - 10 ** 18), f"1/{10 ** 18 - 1}", f"{2 * 10 ** 18}/4", f"{10 ** 30}/{10 ** 30}",
)


def rays(count):
    return " ".join([RAY] * count)


def filled(count, size):
    """A fan of that many rays whose text is as long as asked, by needless zeros."""
    numbers = ["0"] * (4 * count)
    needless = size - len(" ".join(numbers))
    for at in range(len(numbers)):
        more = min(needless, 511)
        numbers[at] += "0" * more
        needless -= more
    text = " ".join(numbers)
    if len(text) != size:
        raise AssertionError(f"{len(text)} bytes instead of {size}")
    return text


class FanTexts(unittest.TestCase):
    def taken(self, text, count):
        self.assertEqual(ask_fan(AIR, text), "0 0" + " 0" * count, text[:80])

    def refused(self, text):
        self.assertEqual(ask_fan(AIR, text), [-1], text[:80])

    def test_one_ray_to_256(self):
        for count in (1, 2, 3, 17, 255, 256):
            self.taken(rays(count), count)

    def test_none_and_257(self):
        self.refused("")
        for count in (257, 258, 512, 8192):
            self.refused(rays(count))

    def test_four_numbers_each(self):
        for count in range(1, 41):
            text = " ".join(["0"] * count)
            if count % 4:
                self.refused(text)
            else:
                self.taken(text, count // 4)
        for count in (1021, 1022, 1023, 1025, 1026, 1027, 1028):
            self.refused(" ".join(["0"] * count))

    def test_just_one_blank_between_two(self):
        for at in range(1, 8):
            numbers = ["0"] * 8
            numbers[at] = " 0"
            self.refused(" ".join(numbers))
        self.refused("0  0 0 0")
        self.refused("0 0 0  0")
        self.refused("0   0 0")
        self.refused("0  0 0")

    def test_no_blank_first_or_last(self):
        self.refused(" " + RAY)
        self.refused(RAY + " ")
        self.refused("  " + RAY)
        self.refused(" 0 0 0")
        self.refused("0 0 0 ")
        self.refused(rays(256) + " ")
        for count in (1, 2, 3, 4, 7, MOST_BYTES):
            self.refused(" " * count)

    def test_no_other_byte_between(self):
        for byte in range(256):
            sign = chr(byte)
            if byte == 32:
                self.taken("0 0 0 0", 1)
            elif sign not in "0123456789./":
                self.refused(f"0 0{sign}0 0")
                self.refused(f"0 0 0{sign}0")
                self.refused(f"{sign} 0 0 0")
        for sign in "\t\n\r\x0b\x0c\x00,;\xa0":
            self.refused(sign.join("0000"))
            self.refused(RAY + sign + RAY)
            self.refused(f"0 0{sign} 0 0")
            self.refused(f"0 0 {sign}0 0")
            self.refused(sign + RAY)
            self.refused(RAY + sign)

    def test_65536_bytes_and_65537(self):
        for count in (64, 200, 256):
            self.taken(filled(count, MOST_BYTES - 1), count)
            self.taken(filled(count, MOST_BYTES), count)
            for size in (MOST_BYTES + 1, MOST_BYTES + 2, 70000):
                self.refused(filled(count, size))

    def test_a_number_that_is_none(self):
        for number in NO_NUMBERS:
            for at in range(4):
                alone = ["0"] * 4
                alone[at] = number
                self.refused(" ".join(alone))
            self.refused(f"{RAY} {number} 0 0 0 {RAY}")
            self.refused(f"{rays(255)} 0 0 0 {number}")

    def test_a_number_that_is_one(self):
        for number in NUMBERS:
            for at in range(4):
                alone = ["0"] * 4
                alone[at] = number
                answer = ask_fan(AIR, " ".join(alone), z="1", p=128)
                self.assertIsInstance(answer, str, number)
                self.assertEqual(answer.split(" ")[2:], ["0"], number)

    def test_numbers_mean_what_they_mean_by_themselves(self):
        first = ask_fan(AIR, "5/2 -3/4 1/2 -7", z="3", p=60)
        for text in ("2.5 -0.75 0.5 -7.0", "10/4 -6/008 00.50 -007", "2.500 -3/4 1/2 -14/2"):
            self.assertEqual(ask_fan(AIR, text, z="3", p=60), first)
        for text in ("-3/4 5/2 1/2 -7", "5/2 -3/4 -7 1/2", "5/2 3/4 1/2 -7", "1/2 -7 5/2 -3/4"):
            self.assertNotEqual(ask_fan(AIR, text, z="3", p=60), first)


if __name__ == "__main__":
    unittest.main()
