"""The refusals' bounds, and their order where several could be told; and that nothing handed in is changed or kept."""

import unittest
from fractions import Fraction

from raypaths.rays import fan, path
from tests.helpers import AIR, WIDENED_RAY, ask, ask_fan, bytes_of, widening

LINES = "glass a:1,2,3;start a;"
FAULTY = "glass a:1,1,1;start b;"
MISSED = AIR + "mirror m after 1 curve 1;"
RAY = "1 0 0 0"
WIDE_FAN = {"rays": WIDENED_RAY["x"] + " 0 0 0", "z": WIDENED_RAY["z"], "p": WIDENED_RAY["p"]}


def padded(text, size):
    return text + "#" * (size - len(text))


class Bounds(unittest.TestCase):
    def test_line_up_to_2(self):
        self.assertEqual(ask(LINES, z="1", line=2), "3 3")
        for line in (3, 4, 256, 4294967295):
            self.assertEqual(ask(LINES, z="1", line=line), [-1])

    def test_p_up_to_256(self):
        self.assertEqual(ask(AIR, z="1/3", p=0), "0 1")
        third = 2 ** 256 // 3
        self.assertEqual(ask(AIR, z="1/3", p=256), f"{third}/{2 ** 256} {(third + 1) // 2}/{2 ** 255}")
        for p in (257, 258, 65536, 4294967295):
            self.assertEqual(ask(AIR, z="1/3", p=p), [-1])

    def test_a_system_of_up_to_65536_bytes(self):
        self.assertEqual(ask(padded(AIR, 65536), z="1"), "1 1")
        for size in (65537, 65538, 70000):
            self.assertEqual(ask(padded(AIR, size), z="1"), [-1])
        self.assertEqual(ask(" " * 65536), [-3, 65536, 2])
        self.assertEqual(ask("a " * 32768), [-3, 0, 2])
        self.assertEqual(ask("glass " + "a" * 65530), [-3, 6, 1])
        self.assertEqual(ask("glass a:" + "1" * 65528), [-3, 8, 1])

    def test_what_is_told(self):
        self.assertEqual(path(0, 4, bytes_of(AIR), [48], [48], [48], [48], [53]), [3, 53, 32, 53])
        self.assertEqual(path(0, 4, bytes_of(AIR), [48], [48], [48], [48], []), [-1])


class Order(unittest.TestCase):
    def test_minus_1_before_minus_3(self):
        for name in "xyuvz":
            self.assertEqual(ask(FAULTY, **{name: "1/0"}), [-1])
        self.assertEqual(ask(FAULTY, line=3), [-1])
        self.assertEqual(ask(FAULTY, p=257), [-1])
        self.assertEqual(ask(padded(FAULTY, 65537)), [-1])
        self.assertEqual(ask(padded(FAULTY, 65536)), [-3, 20, 4])

    def test_minus_1_before_minus_5(self):
        self.assertEqual(ask(MISSED, x="2"), [-5])
        self.assertEqual(ask(MISSED, x="2", z=""), [-1])
        self.assertEqual(ask(MISSED, x="2", line=3), [-1])
        self.assertEqual(ask(MISSED, x="2", p=257), [-1])
        self.assertEqual(ask(padded(MISSED, 65537), x="2"), [-1])

    def test_minus_3_before_minus_5(self):
        self.assertEqual(ask(MISSED + "stop", x="2"), [-3, len(MISSED) + 4, 2])

    def test_minus_5_before_minus_6(self):
        wide, ray = widening(55), WIDENED_RAY
        self.assertEqual(ask(wide, **ray), [-6])
        self.assertEqual(ask(wide + "stop t after 1 clear 1;", **ray), [-5])
        self.assertEqual(ask(wide + "stop t after 1 clear 0;", **ray), [-3, len(wide) + 22, 6])
        self.assertEqual(ask(wide, **{**ray, "p": 257}), [-1])


class FanBounds(unittest.TestCase):
    def test_line_up_to_2(self):
        for line in (0, 1, 2):
            self.assertEqual(ask_fan(LINES, RAY, line=line), "1 1 0")
        for line in (3, 4, 256, 4294967295):
            self.assertEqual(ask_fan(LINES, RAY, line=line), [-1])

    def test_p_up_to_256(self):
        self.assertEqual(ask_fan(AIR, RAY, x="2/3", p=0), "0 1 0")
        lo, hi = [Fraction(2 ** 256 // 9 + more, 2 ** 256) for more in (0, 1)]
        self.assertEqual(ask_fan(AIR, RAY, x="2/3", p=256), f"{lo} {hi} 0")
        for p in (257, 258, 65536, 4294967295):
            self.assertEqual(ask_fan(AIR, RAY, x="2/3", p=p), [-1])

    def test_a_system_of_up_to_65536_bytes(self):
        self.assertEqual(ask_fan(padded(AIR, 65536), RAY), "1 1 0")
        for size in (65537, 65538, 70000):
            self.assertEqual(ask_fan(padded(AIR, size), RAY), [-1])
        self.assertEqual(ask_fan(" " * 65536, RAY), [-3, 65536, 2])

    def test_numbers_handed_over(self):
        bad = ("", "-", "1/0", "1/000", ".5", "5.", " 1", "1 ", "1 2", "+1", "a", str(10 ** 18), f"1/{10 ** 18}",
               "0" * 513, "0" * 2000)
        for name in "zxy":
            for text in bad:
                self.assertEqual(ask_fan(AIR, RAY, **{name: text}), [-1], (name, text))
            for text in ("-3/4", "0" * 512, str(10 ** 18 - 1), f"{2 * 10 ** 18}/4", "2.50"):
                self.assertIsInstance(ask_fan(AIR, RAY, **{name: text}), str, (name, text))

    def test_faults_of_the_systems_text(self):
        full = AIR + "".join(f"stop s{i} after 1;" for i in range(64))
        for text, place, kind in (
                ("", 0, 2), (AIR + ".", 26, 1), ("glass a:1,1,1;glass a:1,1,1;start a;", 20, 3), (FAULTY, 20, 4),
                ("glass a:0,1,1;start a;", 9, 6), (AIR + "stop s after 1/0;", 41, 6),
                (full + "stop t after 1;", len(full), 5)):
            self.assertEqual(ask_fan(text, RAY), [-3, place, kind], text)
            self.assertEqual(ask(text), [-3, place, kind], text)


class FanOrder(unittest.TestCase):
    def test_minus_1_before_minus_3(self):
        self.assertEqual(ask_fan(FAULTY, RAY), [-3, 20, 4])
        for name in "zxy":
            self.assertEqual(ask_fan(FAULTY, RAY, **{name: "1/0"}), [-1])
        for rays in ("", RAY + " ", "0 0 0", "0 0 0 1/0", "0 0 0  0", " ".join([RAY] * 257), RAY + "0" * 65536):
            self.assertEqual(ask_fan(FAULTY, rays), [-1])
        self.assertEqual(ask_fan(FAULTY, RAY, line=3), [-1])
        self.assertEqual(ask_fan(FAULTY, RAY, p=257), [-1])
        self.assertEqual(ask_fan(padded(FAULTY, 65537), RAY), [-1])
        self.assertEqual(ask_fan(padded(FAULTY, 65536), RAY), [-3, 20, 4])

    def test_minus_1_and_minus_3_before_minus_6(self):
        wide, asked = widening(55), WIDE_FAN
        self.assertEqual(ask_fan(wide, **asked), [-6])
        self.assertEqual(ask_fan(wide, **{**asked, "p": 257}), [-1])
        self.assertEqual(ask_fan(wide, **asked, line=3), [-1])
        self.assertEqual(ask_fan(wide, **asked, x=""), [-1])
        self.assertEqual(ask_fan(wide, **asked, y="1/0"), [-1])
        self.assertEqual(ask_fan(wide, **{**asked, "rays": asked["rays"] + " "}), [-1])
        self.assertEqual(ask_fan(padded(wide, 65537), **asked), [-1])
        self.assertEqual(ask_fan(wide + "stop t after 1 clear 0;", **asked), [-3, len(wide) + 22, 6])

    def test_a_ray_that_is_lost_refuses_nothing(self):
        self.assertEqual(ask_fan(MISSED, "2 0 0 0"), "0 0 1")
        self.assertEqual(ask_fan(MISSED, "2 0 0 0", z=""), [-1])
        self.assertEqual(ask_fan(MISSED + "stop", "2 0 0 0"), [-3, len(MISSED) + 4, 2])


class Guarded(list):
    """A list that tells when it is changed, though it be changed back."""

    def refuse(self, *args, **kwargs):
        raise AssertionError("what is handed in is changed")

    append = extend = insert = pop = remove = clear = sort = reverse = refuse
    __setitem__ = __delitem__ = __iadd__ = __imul__ = refuse


class Kept(unittest.TestCase):
    """Calls of path and of fan, one behind the other; path's have one text more."""

    CALLS = (
        (0, 4, AIR, "3 4 0 0 1 1 0 0", "7", "3", "-1/3"),
        (0, 4, MISSED, "0", "0", "0", "0", "-3"),
        (0, 200, MISSED, "1/2", "-1/3", "0.1", "-.1", "-3"),
        (0, 200, MISSED, "1/2", "-1/3", "0.1", "-0.1", "-3"),
        (0, 8, MISSED, "0 0 0 0 1/2 -1/3 0.1 -0.1 2 0 0 0 1 0 0 0", "-3", "1/2", "-0.7"),
        (0, 8, MISSED, "2 0 0 0", "-3", "1/2", "-0.7"),
        (0, 8, FAULTY, "0", "0", "0", "0", "1"),
        (0, 8, FAULTY, "0 0 0 0", "0", "0", "1"),
        (0, 8, MISSED, "0 0 0  0", "0", "0", "1"),
        (2, 8, LINES, "1", "0", "1/7", "0", "-1"),
        (0, 8, MISSED, "2", "0", "0", "0", "1"),
        (1, 300, LINES, "1", "0", "1/7", "0", "-1"),
        (1, 300, LINES, "1 0 1/7 0", "-1", "0", "0"),
        (1, 256, LINES, "1 0 1/7 0 0 1 0 -1/7", "-1", "1/3", "0"),
    )

    def call(self, case, make):
        handed = [make(bytes_of(text)) for text in case[2:]]
        answer = (path if len(case) == 8 else fan)(case[0], case[1], *handed)
        self.assertEqual(handed, [bytes_of(text) for text in case[2:]])
        self.assertIs(type(answer), list)
        self.assertTrue(all(type(number) is int for number in answer))
        return answer

    def test_nothing_handed_in_is_changed(self):
        for case in self.CALLS:
            self.assertEqual(self.call(case, Guarded), self.call(case, list))

    def test_nothing_is_kept(self):
        first = [self.call(case, list) for case in self.CALLS]
        self.assertEqual([self.call(case, list) for case in reversed(self.CALLS)], first[::-1])
        self.assertEqual([self.call(case, list) for case in self.CALLS], first)

    def test_what_is_given_back_is_new(self):
        for case in self.CALLS:
            answer = self.call(case, list)
            answer.clear()
            self.assertNotEqual(self.call(case, list), answer)

    def test_path_and_fan_one_behind_the_other(self):
        alone = [self.call(case, list) for case in self.CALLS]
        for first, one in enumerate(self.CALLS):
            for second, other in enumerate(self.CALLS):
                self.assertEqual(self.call(one, list), alone[first])
                self.assertEqual(self.call(other, list), alone[second])

    def test_the_same_lists_handed_in_again(self):
        for case in self.CALLS:
            call = path if len(case) == 8 else fan
            handed = [bytes_of(text) for text in case[2:]]
            self.assertEqual(call(case[0], case[1], *handed), call(case[0], case[1], *handed))
        zero = [48]
        self.assertEqual(fan(0, 4, bytes_of(AIR), bytes_of(RAY), zero, zero, zero), [5, 49, 32, 49, 32, 48])
        self.assertEqual(zero, [48])


if __name__ == "__main__":
    unittest.main()
