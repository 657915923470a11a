"""Numbers handed over: what is one and what isn't (-1); and exact texts."""

import unittest

from raypaths.figures import TooGreat, exact_text
from tests.helpers import AIR, ask

TOP = 10 ** 18 - 1


def told_of(z):
    """Without any part, and with the whole way along the axis, path tells z itself, if p is fine enough."""
    return ask(AIR, z=z, p=16)


class HandedOver(unittest.TestCase):
    def taken(self, text, exact):
        self.assertEqual(told_of(text), f"{exact} {exact}", text)

    def refused(self, text):
        for name in "xyuvz":
            self.assertEqual(ask(AIR, **{name: text}), [-1], (name, text))

    def test_ordinary(self):
        self.taken("0", "0")
        self.taken("7", "7")
        self.taken("-7", "-7")
        self.taken("3/4", "3/4")
        self.taken("-3/4", "-3/4")
        self.taken("2.5", "5/2")
        self.taken("-2.5", "-5/2")

    def test_needless_zeros_and_least_terms(self):
        self.taken("-0", "0")
        self.taken("-0.000", "0")
        self.taken("0/7", "0")
        self.taken("007", "7")
        self.taken("2.500", "5/2")
        self.taken("00.5", "1/2")
        self.taken("6/008", "3/4")
        self.taken("8/4", "2")

    def test_a_fraction_that_the_fineness_does_not_hold(self):
        self.assertEqual(ask(AIR, z="1/3", p=2), "1/4 1/2")
        self.assertEqual(ask(AIR, z="-0.3", p=2), "-1/2 -1/4")

    def test_no_number(self):
        for text in ("", "-", "--1", "+1", " 1", "1 ", "1 2", "a", "1a", "0x1", "1e3", "1,5", "- 1", "\x00", "\xff"):
            self.refused(text)

    def test_point_and_slash_need_digits_on_both_sides(self):
        for text in (".", "/", ".5", "5.", "/5", "5/", "-.5", "-5.", "-/5", "-5/"):
            self.refused(text)

    def test_only_one_point_or_slash_and_one_minus(self):
        for text in ("1.2.3", "1/2/3", "1.2/3", "1/2.3", "1/-2", "1.-2", "1-", "1..2", "1//2"):
            self.refused(text)

    def test_denominator_of_zeros_alone(self):
        for text in ("1/0", "1/000", "0/0", "-1/00"):
            self.refused(text)

    def test_signs_beside_the_digits(self):
        for text in ("1:", ":", "1;", "1\n", "\n1", "1\xb2"):
            self.refused(text)

    def test_512_bytes_and_513(self):
        self.taken("0" * 511 + "5", "5")
        self.refused("0" * 512 + "5")
        self.taken("-" + "0" * 510 + "5", "-5")
        self.refused("-" + "0" * 511 + "5")
        self.taken("5." + "0" * 510, "5")
        self.refused("5." + "0" * 511)
        self.taken("5/" + "0" * 509 + "1", "5")
        self.refused("5/" + "0" * 510 + "1")

    def test_1300_digits_and_more(self):
        for count in (1299, 1300, 1301, 2000):
            self.refused("0" * count)
            self.refused("7" * count)

    def test_numerator_below_10_to_18(self):
        self.taken(str(TOP), str(TOP))
        self.taken(str(-TOP), str(-TOP))
        self.refused(str(TOP + 1))
        self.refused(str(-TOP - 1))
        self.refused("9" * 19)

    def test_denominator_below_10_to_18(self):
        self.assertEqual(ask(AIR, z=f"1/{TOP}", p=0), "0 1")
        self.refused(f"1/{TOP + 1}")
        self.assertEqual(ask(AIR, z="0." + "0" * 16 + "1", p=0), "0 1")
        self.refused("0." + "0" * 17 + "1")

    def test_the_bound_is_asked_in_least_terms(self):
        self.taken(f"{2 * 10 ** 18}/4", str(5 * 10 ** 17))
        self.taken(f"{3 * (TOP + 1)}/{3 * (TOP + 1)}", "1")
        self.taken("0.5" + "0" * 300, "1/2")
        self.taken("7" * 200 + "/" + "7" * 200, "1")
        self.refused(f"{2 * 10 ** 18 + 2}/2")
        self.refused("0." + "3" * 18)


class ExactTexts(unittest.TestCase):
    def text(self, above, below):
        return bytes(exact_text((above, below))).decode("ascii")

    def test_least_terms(self):
        self.assertEqual(self.text(0, 8), "0")
        self.assertEqual(self.text(6, 8), "3/4")
        self.assertEqual(self.text(-6, 8), "-3/4")
        self.assertEqual(self.text(-16, 8), "-2")

    def test_up_to_2_to_4096(self):
        edge = 2 ** 4096
        self.assertEqual(self.text(edge - 1, 1), str(edge - 1))
        self.assertEqual(self.text(1 - edge, 1), str(1 - edge))
        self.assertEqual(self.text(1, edge - 1), f"1/{edge - 1}")
        self.assertEqual(self.text(3 * edge, 9 * edge), "1/3")
        self.assertEqual(self.text(edge, 2), str(edge // 2))
        for above, below in ((edge, 1), (-edge, 1), (edge + 1, 2), (1, edge), (edge ** 9, 1)):
            with self.assertRaises(TooGreat):
                exact_text((above, below))


if __name__ == "__main__":
    unittest.main()
