"""The refusals' bounds, and their order where several could be told; and that nothing handed in is changed or kept."""

import unittest

from raypaths.rays import path
from tests.helpers import AIR, WIDENED_RAY, ask, bytes_of, widening

LINES = "glass a:1,2,3;start a;"
FAULTY = "glass a:1,1,1;start b;"
MISSED = AIR + "mirror m after 1 curve 1;"


def padded(text, size):
    return text + "#" * (size - len(text))


class Bounds(unittest.TestCase):
    def test_line_up_to_2(self):
        self.assertEqual(ask(LINES, z="1", line=2), "3 3")
        for line in (3, 4, 256, 4294967295):
            self.assertEqual(ask(LINES, z="1", line=line), [-1])

    def test_p_up_to_256(self):
        self.assertEqual(ask(AIR, z="1/3", p=0), "0 1")
        third = 2 ** 256 // 3
        self.assertEqual(ask(AIR, z="1/3", p=256), f"{third}/{2 ** 256} {(third + 1) // 2}/{2 ** 255}")
        for p in (257, 258, 65536, 4294967295):
            self.assertEqual(ask(AIR, z="1/3", p=p), [-1])

    def test_a_system_of_up_to_65536_bytes(self):
        self.assertEqual(ask(padded(AIR, 65536), z="1"), "1 1")
        for size in (65537, 65538, 70000):
            self.assertEqual(ask(padded(AIR, size), z="1"), [-1])
        self.assertEqual(ask(" " * 65536), [-3, 65536, 2])
        self.assertEqual(ask("a " * 32768), [-3, 0, 2])
        self.assertEqual(ask("glass " + "a" * 65530), [-3, 6, 1])
        self.assertEqual(ask("glass a:" + "1" * 65528), [-3, 8, 1])

    def test_what_is_told(self):
        self.assertEqual(path(0, 4, bytes_of(AIR), [48], [48], [48], [48], [53]), [3, 53, 32, 53])
        self.assertEqual(path(0, 4, bytes_of(AIR), [48], [48], [48], [48], []), [-1])


class Order(unittest.TestCase):
    def test_minus_1_before_minus_3(self):
        for name in "xyuvz":
            self.assertEqual(ask(FAULTY, **{name: "1/0"}), [-1])
        self.assertEqual(ask(FAULTY, line=3), [-1])
        self.assertEqual(ask(FAULTY, p=257), [-1])
        self.assertEqual(ask(padded(FAULTY, 65537)), [-1])
        self.assertEqual(ask(padded(FAULTY, 65536)), [-3, 20, 4])

    def test_minus_1_before_minus_5(self):
        self.assertEqual(ask(MISSED, x="2"), [-5])
        self.assertEqual(ask(MISSED, x="2", z=""), [-1])
        self.assertEqual(ask(MISSED, x="2", line=3), [-1])
        self.assertEqual(ask(MISSED, x="2", p=257), [-1])
        self.assertEqual(ask(padded(MISSED, 65537), x="2"), [-1])

    def test_minus_3_before_minus_5(self):
        self.assertEqual(ask(MISSED + "stop", x="2"), [-3, len(MISSED) + 4, 2])

    def test_minus_5_before_minus_6(self):
        wide, ray = widening(55), WIDENED_RAY
        self.assertEqual(ask(wide, **ray), [-6])
        self.assertEqual(ask(wide + "stop t after 1 clear 1;", **ray), [-5])
        self.assertEqual(ask(wide + "stop t after 1 clear 0;", **ray), [-3, len(wide) + 22, 6])
        self.assertEqual(ask(wide, **{**ray, "p": 257}), [-1])


class Guarded(list):
    """A list that tells when it is changed, though it be changed back."""

    def refuse(self, *args, **kwargs):
        raise AssertionError("what is handed in is changed")

    append = extend = insert = pop = remove = clear = sort = reverse = refuse
    __setitem__ = __delitem__ = __iadd__ = __imul__ = refuse


class Kept(unittest.TestCase):
    CALLS = (
        (0, 4, MISSED, "0", "0", "0", "0", "-3"),
        (0, 200, MISSED, "1/2", "-1/3", "0.1", "-.1", "-3"),
        (0, 200, MISSED, "1/2", "-1/3", "0.1", "-0.1", "-3"),
        (0, 8, FAULTY, "0", "0", "0", "0", "1"),
        (2, 8, LINES, "1", "0", "1/7", "0", "-1"),
        (0, 8, MISSED, "2", "0", "0", "0", "1"),
        (1, 300, LINES, "1", "0", "1/7", "0", "-1"),
    )

    def call(self, case, make):
        handed = [make(bytes_of(text)) for text in case[2:]]
        answer = path(case[0], case[1], *handed)
        self.assertEqual(handed, [bytes_of(text) for text in case[2:]])
        self.assertIs(type(answer), list)
        self.assertTrue(all(type(number) is int for number in answer))
        return answer

    def test_nothing_handed_in_is_changed(self):
        for case in self.CALLS:
            self.assertEqual(self.call(case, Guarded), self.call(case, list))

    def test_nothing_is_kept(self):
        first = [self.call(case, list) for case in self.CALLS]
        self.assertEqual([self.call(case, list) for case in reversed(self.CALLS)], first[::-1])
        self.assertEqual([self.call(case, list) for case in self.CALLS], first)

    def test_what_is_given_back_is_new(self):
        answer = self.call(self.CALLS[0], list)
        answer.clear()
        self.assertNotEqual(self.call(self.CALLS[0], list), answer)


if __name__ == "__main__":
    unittest.main()
