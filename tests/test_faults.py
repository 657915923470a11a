"""A system's text: its tokens, its grammar, and the first fault's place and kind."""

import unittest

from tests.helpers import AIR, ask

G = "glass a:1,1,1;"
S = G + "start a;"


def numbered(count, row):
    return "".join(row.replace("@", str(i)) for i in range(count))


class FaultCase(unittest.TestCase):
    def fault(self, marked, kind):
        """The place is where ^ stands, which is no part of the text."""
        place = marked.index("^")
        text = marked[:place] + marked[place + 1:]
        self.assertEqual(ask(text), [-3, place, kind], marked)

    def sound(self, text):
        self.assertNotIn(ask(text, p=8)[0], (-1, -3), text)


class Tokens(FaultCase):
    def test_no_token(self):
        for byte in ".!$@\\\"'()*+<=>?[]`{|}~\x00\x0b\x0c\x1f\x7f\x80\xa0\xff":
            self.fault("^" + byte + S, 1)
            self.fault(S + "^" + byte, 1)
            self.fault("glass a^" + byte + ":1,1,1;start a;", 1)
            self.fault("glass ^" + byte + "a:1,1,1;start a;", 1)

    def test_nothing_behind_no_token_is_looked_at(self):
        self.fault(S + "^. glass ;;; 1/0 @", 1)
        self.fault("glass a^?", 1)

    def test_a_fault_before_no_token_is_told_first(self):
        self.fault("^start a;.", 2)
        self.fault(G + "glass ^a.", 3)

    def test_blanks(self):
        self.sound(" \t\r\nglass\ta\r:\n1 , 1 ,1\t;start  a ; ")
        self.sound("glass a:1,1,1;start a;stop s after 1;\n")
        self.fault("^glassa:1,1,1;start a;", 2)
        self.fault(" \t\r\n^", 2)

    def test_comments(self):
        self.sound("#x\n" + S)
        self.sound("glass#glass;;\xff\x00\na#1#2\n:1,1,1;start a;")
        self.sound(S + "# runs to the end")
        self.sound(S + "#")
        self.sound("glass a:1#.5\n,1,1;start a;")
        self.fault(S + "# ends here\n^.", 1)
        self.fault(S + "# not here\r . \n^start", 2)
        self.fault(G + "start a#;^", 2)
        self.fault("# glass a:1,1,1;start a;^", 2)

    def test_names_up_to_32_bytes(self):
        for name in ("a", "Z", "_", "_9", "a0_Z", "Glass", "glas", "glasss", "GLASS", "x" * 32, "_" * 32, "a" + "1" * 31):
            self.sound(f"glass {name}:1,1,1;start {name};")
        for name in ("x" * 33, "_" * 33, "a" + "1" * 32, "x" * 500):
            self.fault(f"glass ^{name}:1,1,1;start a;", 1)
        self.fault(f"{G}start ^{'a' * 33};", 1)
        self.fault(f"^{'glass' * 7} a", 1)
        self.fault(f"^{'1' + 'x' * 40} a", 1)

    def test_every_letter_and_digit(self):
        letters = "ABCDEFGHIJKLMNOPQRSTUVWXYZabcdefghijklmnopqrstuvwxyz_"
        for letter in letters:
            self.sound(f"glass {letter}:1,1,1;start {letter};")
        for sign in letters + "0123456789":
            self.sound(f"glass x{sign}x:1,1,1;start x{sign}x;")
            self.fault(f"glass a:^1{sign}" + "x;", 1)
        for digit in "0123456789":
            self.sound(f"glass a:1{digit},1.{digit},1{digit}/1{digit};start a;")

    def test_names_are_whole(self):
        self.sound("glass a:1,1,1;glass A:1,1,1;glass a1:1,1,1;start A;")
        self.fault("glass a:1,1,1;start ^A;", 4)
        self.fault("glass a:1,1,1;start ^aa;", 4)
        self.fault(f"glass {'x' * 32}:1,1,1;start ^{'x' * 31};", 4)

    def test_words_are_no_names(self):
        for word in "after clear conic curve flat glass into mirror radius start stop surface".split():
            self.fault(f"glass ^{word}:1,1,1;start a;", 2)
            self.fault(f"{G}start ^{word};", 2)
            self.fault(f"{S}stop ^{word} after 1;", 2)
            self.sound(f"glass {word}s:1,1,1;start {word}s;stop {word.upper()} after 1;")

    def test_numbers_up_to_18_digits(self):
        for number in ("1" * 18, "0" * 17 + "1", "1." + "0" * 17, "1" * 17 + ".0", "1" * 9 + "." + "0" * 9):
            self.sound(f"glass a:{number},1,1;start a;")
        for number in ("1" * 19, "0" * 18 + "1", "1." + "0" * 18, "1" * 18 + ".0", "1" * 9 + "." + "0" * 10, "1" * 900):
            self.fault(f"glass a:^{number},1,1;start a;", 1)
            self.fault(f"{S}stop s after 1/^{number};", 1)
        self.sound(f"glass a:{'9' * 18}/{'9' * 18},1,1;start a;")

    def test_behind_a_number(self):
        for behind in ("a", "Z", "_", ".", "..5", ".a", ". 5", "x1", "e5", ".5.", ".5.5", ".5a", ".5_"):
            self.fault(f"glass a:^1{behind},1,1;start a;", 1)
            self.fault(f"{S}stop s after ^1{behind};", 1)
        self.fault(f"{S}stop s after ^1.", 1)
        for number in ("1", "12", "1.5", "1.25", "1/2", "12/34"):
            self.fault(f"{S}stop s after {number}^", 2)
        self.fault(f"{S}stop s after ^1clear 2;", 1)
        self.sound(f"{S}stop s after 1#\nclear 2;")
        self.fault("glass a:1^-1,1;", 2)
        self.fault("glass a:^.5,1,1;", 1)


class Grammar(FaultCase):
    def test_whole_systems(self):
        self.sound(S)
        self.sound(S + "stop s after 0;")
        self.sound(S + "stop s after 0 clear 1/2;")
        self.sound(S + "mirror m after 1.5 flat;")
        self.sound(S + "mirror m after 1/3 curve -1/3 conic -1 clear 2.5;")
        self.sound(S + "surface s after 1 into a radius -2.5 conic 0 clear 1;")
        self.sound(S + "surface s after 1 into a flat conic 3/7;surface t after 1 into a curve 0 clear 5;")
        self.sound(S + "surface s after 1 into a curve -0;")

    def test_the_end_comes_too_early(self):
        whole = ("glass", " ", "a", ":", "1", "/", "1", ",", "1.5", ",", "2", ";", "start", " ", "a", ";",
                 "surface", " ", "s", " ", "after", " ", "1", " ", "into", " ", "a", " ", "radius", " ", "-", "3",
                 " ", "conic", " ", "-", "1", " ", "clear", " ", "4", ";")
        for count in range(len(whole)):
            text = "".join(whole[:count])
            if not text.endswith("start a;"):
                self.fault(text + "^", 2)
                self.fault(text + " # end^", 2)
        self.sound("".join(whole))

    def test_the_token_cannot_stand(self):
        self.fault("^", 2)
        self.fault("^start a;", 2)
        self.fault("^;" + S, 2)
        self.fault("^a", 2)
        self.fault("glass ^1:1,1,1;", 2)
        self.fault("glass a ^1", 2)
        self.fault("glass a:^a,1,1;", 2)
        self.fault("glass a:^-1,1,1;", 2)
        self.fault("glass a:1^;", 2)
        self.fault("glass a:1,1^;", 2)
        self.fault("glass a:1,1,1^,1;", 2)
        self.fault(G + "^;", 2)
        self.fault(G + "^stop s after 1;", 2)
        self.fault(S + "^start a;", 2)
        self.fault(S + "^glass b:1,1,1;", 2)
        self.fault(S + "^;", 2)
        self.fault(S + "^flat", 2)

    def test_shapes(self):
        self.fault(S + "mirror m after 1^;", 2)
        self.fault(S + "mirror m after 1 ^conic 1;", 2)
        self.fault(S + "mirror m after 1 ^clear 1;", 2)
        self.fault(S + "mirror m after 1 ^into a flat;", 2)
        self.fault(S + "mirror m after ^-1 flat;", 2)
        self.fault(S + "mirror m after 1 flat ^1;", 2)
        self.fault(S + "mirror m after 1 flat ^curve 1;", 2)
        self.fault(S + "mirror m after 1 curve ^;", 2)
        self.fault(S + "mirror m after 1 curve -^-1;", 2)
        self.fault(S + "mirror m after 1 curve 1/^-1;", 2)
        self.fault(S + "mirror m after 1 flat clear 1 ^conic 1;", 2)
        self.fault(S + "mirror m after 1 flat clear ^-1;", 2)
        self.fault(S + "mirror m after 1 flat conic 1 ^conic 1;", 2)
        self.fault(S + "surface s after 1 ^flat;", 2)
        self.fault(S + "surface s ^into a after 1 flat;", 2)
        self.fault(S + "surface s after 1 into a^;", 2)
        self.fault(S + "stop s after 1 ^flat;", 2)
        self.fault(S + "stop s after 1 ^conic 1;", 2)
        self.fault(S + "stop s after 1 clear 1^,", 2)

    def test_fractions_are_of_whole_numbers(self):
        self.fault("glass a:1.5^/2,1,1;", 2)
        self.fault("glass a:3/^1.5,1,1;", 2)
        self.fault("glass a:3/2^/1,1,1;", 2)
        self.fault("glass a:3/^,1,1;", 2)
        self.fault("glass a:3/^0.0,1,1;", 2)
        self.fault("glass a:^/2,1,1;", 2)
        self.sound("glass a : 3 / 2 , 3/ 2,3 /2; start a;")


class Meaning(FaultCase):
    def test_a_name_that_one_before_has(self):
        self.fault(G + "glass ^a:1,1,1;", 3)
        self.fault(G + "glass b:1,1,1;glass ^a 1 0 /", 3)
        self.fault(S + "stop s after 1;mirror ^s after 1 flat;", 3)
        self.fault(S + "stop s after 1;stop t after 1;stop ^s .", 3)

    def test_glasses_and_parts_have_names_apart(self):
        self.sound(S + "stop a after 1;")
        self.sound(S + "surface a after 1 into a flat;")

    def test_no_glass_of_that_name(self):
        self.fault(G + "start ^b;", 4)
        self.fault(S + "surface s after 1 into ^s flat;", 4)
        self.fault(S + "surface b after 1 into ^b 1/0 .", 4)
        self.fault(G + "start ^b.", 4)

    def test_64_glasses_and_the_65th(self):
        self.sound(numbered(64, "glass g@:1,1,1;") + "start g63;")
        self.fault(numbered(64, "glass g@:1,1,1;") + "^glass g64:1,1,1;start g0;", 5)
        self.fault(numbered(64, "glass g@:1,1,1;") + "^glass g0 .", 5)
        self.fault(numbered(63, "glass g@:1,1,1;") + "glass ^g0:", 3)

    def test_64_parts_and_the_65th(self):
        self.sound(S + numbered(64, "stop s@ after 0;"))
        for word in ("stop", "mirror", "surface"):
            self.fault(S + numbered(64, "stop s@ after 0;") + f"^{word} s64 after 0;", 5)
        self.fault(S + numbered(64, "stop s@ after 0;") + "^stop s0", 5)
        self.fault(S + numbered(64, "stop s@ after 0;") + "^glass", 2)
        self.sound(numbered(64, "glass g@:1,1,1;") + "start g0;" + numbered(64, "mirror s@ after 0 flat;"))

    def test_a_zero_behind_a_slash(self):
        for zero in ("0", "000", "0" * 18):
            self.fault(f"glass a:1/^{zero},1,1;start a;", 6)
            self.fault(f"glass a:1,1/^{zero} x", 6)
            self.fault(f"{S}stop s after 0/^{zero};", 6)
            self.fault(f"{S}mirror m after 1 curve -1/^{zero};", 6)
            self.fault(f"{S}mirror m after 1 radius 0/^{zero};", 6)
            self.fault(f"{S}mirror m after 1 flat conic 1/^{zero};", 6)
            self.fault(f"{S}mirror m after 1 flat clear 1/^{zero};", 6)

    def test_an_index_below_1(self):
        self.fault("glass a:0^,1,1;start a;", 6)
        self.fault("glass a:1,0.999 ^,1;start a;", 6)
        self.fault("glass a:1,1,2/3^;start a;", 6)
        self.fault(f"glass a:{'9' * 17}8/{'9' * 18}^,1,1;", 6)
        self.sound(f"glass a:{'9' * 18}/{'9' * 18},1.0,001;start a;")

    def test_a_radius_of_0(self):
        self.fault(S + "mirror m after 1 radius 0^;", 6)
        self.fault(S + "mirror m after 1 radius -0 ^conic 1;", 6)
        self.fault(S + "mirror m after 1 radius 0.00 ^clear 1;", 6)
        self.fault(S + "surface s after 1 into a radius 0/5^;", 6)

    def test_a_clear_of_0(self):
        self.fault(S + "stop s after 1 clear 0^;", 6)
        self.fault(S + "mirror m after 1 flat clear 0.0 ^;", 6)
        self.fault(S + "surface s after 1 into a flat clear 0/7#\n^;", 6)

    def test_of_several_at_one_place_the_lesser(self):
        self.fault("glass a:0^", 2)
        self.fault("glass a:0 ^.", 1)
        self.fault("glass a:0 ^;", 2)
        self.fault("glass a:1,1,0 ^,", 2)
        self.fault("glass a:0/1^/2", 2)
        self.fault(S + "mirror m after 1 radius 0^", 2)
        self.fault(S + "mirror m after 1 radius 0 ^flat", 2)
        self.fault(S + "mirror m after 1 radius 0 ^?", 1)
        self.fault(S + "mirror m after 1 radius 0.0^/1;", 2)
        self.fault(S + "stop s after 1 clear 0^", 2)
        self.fault(S + "stop s after 1 clear 0 ^conic", 2)
        self.fault(S + "stop s after 1 clear 0 ^" + "9" * 19, 1)

    def test_of_several_the_first_by_place(self):
        self.fault(G + "glass b:0^,1,1;glass a:1,1,1;start c;", 6)
        self.fault(G + "start ^c;surface s after 1/0 into d flat", 4)
        self.fault(S + "stop s after 1/^0 clear 0;stop s", 6)
        self.fault(S + "mirror m after 1 radius 0 ^clear 0;", 6)
        self.fault("glass a:1/^0.", 1)

    def test_zeros_that_may_stand(self):
        self.sound(S + "mirror m after 0 curve 0 conic 0 clear 1;")
        self.sound(AIR + "stop s after 0/5;")


if __name__ == "__main__":
    unittest.main()
