import itertools
import random
import unittest

from making import choose, depth, less, let, name, num, plus, random_pieces, size, stamp
from model import readings
from stampword.errors import NoPiece, StampError
from stampword.notes import read, shown

SIGNS = [chr(code) for code in range(ord(" "), ord("~") + 1) if chr(code) != "%"]
LARGE = 10 ** 120 - 1
LINES = [
    ("0", num(0)),
    ("1", num(1)),
    ("-1", num(-1)),
    ("10", num(10)),
    ("-908", num(-908)),
    ("a", name("a")),
    ("z", name("z")),
    ("sum", name("sum")),
    ("number", name("number")),
    ("(1+2)", plus(num(1), num(2))),
    ("(1-2)", less(num(1), num(2))),
    ("(1--2)", less(num(1), num(-2))),
    ("(-1-2)", less(num(-1), num(2))),
    ("(-1--2)", less(num(-1), num(-2))),
    ("(1+-2)", plus(num(1), num(-2))),
    ("(-1+2)", plus(num(-1), num(2))),
    ("(a-0)", less(name("a"), num(0))),
    ("(a-a)", less(name("a"), name("a"))),
    ("((1-2)-3)", less(less(num(1), num(2)), num(3))),
    ("(1-(2-3))", less(num(1), less(num(2), num(3)))),
    ("(1?2:3)", choose(num(1), num(2), num(3))),
    ("(-1?-2:-3)", choose(num(-1), num(-2), num(-3))),
    ("(a?(b?1:2):(c?3:4))",
     choose(name("a"), choose(name("b"), num(1), num(2)), choose(name("c"), num(3), num(4)))),
    ("[a=1]a", let("a", num(1), name("a"))),
    ("[a=-1]-2", let("a", num(-1), num(-2))),
    ("[a=1][b=2](a+b)", let("a", num(1), let("b", num(2), plus(name("a"), name("b"))))),
    ("[a=[b=1]b]a", let("a", let("b", num(1), name("b")), name("a"))),
    ("([a=1]a+b)", plus(let("a", num(1), name("a")), name("b"))),
    ("(a+[a=1]a)", plus(name("a"), let("a", num(1), name("a")))),
    ("[a=1](a+b)", let("a", num(1), plus(name("a"), name("b")))),
    ("s{}", stamp("s")),
    ("s{1}", stamp("s", num(1))),
    ("s{1,2}", stamp("s", num(1), num(2))),
    ("s{-1,a,0}", stamp("s", num(-1), name("a"), num(0))),
    ("s{t{}}", stamp("s", stamp("t"))),
    ("s{t{},u{}}", stamp("s", stamp("t"), stamp("u"))),
    ("s{s{s{1},2},3}", stamp("s", stamp("s", stamp("s", num(1)), num(2)), num(3))),
    ("s{[a=1]a,b}", stamp("s", let("a", num(1), name("a")), name("b"))),
    ("[s=s{}]s{s}", let("s", stamp("s"), stamp("s", name("s")))),
    ("(s{}+s{})", plus(stamp("s"), stamp("s"))),
]
REFUSED = """(1+2 1+2 (1) [a=1] s{1,} -a -0 01 A
    - -- --1 -(1+2) -01 00 -00 0a 1a a1 1- (1 () ( ) 1) (1+2)) ((1+2) ((1+2)) (+1) (1+) (+) (1+2+3) (1+2-3) (a+b)c
    (1-) (-) (1*2) (1/2) (1,2) (1?2) (1?2:) (1?:3) (?2:3) (1:2?3) (1?2:3:4) (1?2:3?4) 1?2:3 (1?2+3) (1+2:3)
    [ [] [a [a] [a= [a=] [a=1 [=1]a [1=1]a [a=1]] [[a=1]a [a==1]a [a=1]a] [A=1]a [a1=1]a [a-1]a [a,b=1]a
    [s{}=1]a [(a)=1]a [a=1]a+1 ([a=1]a) a=1 {} {1} s{ s} s{1 s1} s{,} s{,1} s{1,,2} s{1,2 s{}} s{}{} s{}1
    1{} (s){} s{}a [a=1]{} s[1] s(1) {s} s{1;2} a,b a+b aB Ab a_b a' "a" +1 1.0 .1 1e3 1_000 0x1 0b1 $ ~ @
    a{}b{} (1+2){} S{} s{A} ]a[ )1+2( }s{ a? : = , ? + # ! ;""".split()
BLANKS = ["", " ", " 1", "1 ", "( 1+2)", "(1 + 2)", "(1+ 2)", "(1 +2)", "(1+2) ", "- 1", "a b", "s {}", "s{ }",
          "s{1, 2}", "[a =1]a", "[ a=1]a", "[a= 1]a", "[a=1] a", "[a=1]a b", "(1 ?2:3)", "1 2", "-1 0", "  "]


class Checked(unittest.TestCase):
    def both_ways(self, line, piece):
        answer = shown(piece)
        self.assertIs(type(answer), str)
        self.assertTrue(answer == line, line[:200])
        self.assertEqual(read(line), piece, line[:200])

    def refused(self, line):
        with self.assertRaises(NoPiece, msg=repr(line[:200])):
            read(line)

    def as_by_readings(self, line):
        found = readings(line)
        self.assertLessEqual(len(found), 1, line)
        if found:
            self.both_ways(line, found[0])
        else:
            self.refused(line)
        return len(found)


class BothWays(Checked):
    def test_each_sort_of_piece(self):
        for line, piece in LINES:
            self.both_ways(line, piece)

    def test_the_kinds_of_what_is_read(self):
        self.assertEqual(repr(read("[a=(1?s{}:-2)]s{a,(a-b)}")),
                         "('let', 'a', ('choose', ('number', 1), ('stamp', 's'), ('number', -2)), "
                         "('stamp', 's', ('name', 'a'), ('less', ('name', 'a'), ('name', 'b'))))")

    def test_pieces_by_chance(self):
        for piece in random_pieces("lines", 3000, True):
            line = shown(piece)
            self.assertRegex(line, r"\A[a-z0-9()+?:\[\]={},-]+\Z")
            self.assertEqual(read(line), piece)

    def test_different_pieces_have_different_lines(self):
        pieces = {repr(piece): shown(piece) for piece in random_pieces("different", 3000, True)}
        self.assertEqual(len(set(pieces)), len(set(pieces.values())))


class Refusals(Checked):
    def test_texts_that_are_no_lines(self):
        for line in REFUSED + BLANKS:
            self.refused(line)

    def test_every_sign_by_itself(self):
        for sign in SIGNS:
            if sign.isdigit():
                self.both_ways(sign, num(int(sign)))
            elif sign.islower():
                self.both_ways(sign, name(sign))
            else:
                self.refused(sign)

    def test_the_refusal_is_a_stamp_error_and_a_value_error(self):
        for error in (StampError, ValueError):
            with self.assertRaises(error):
                read("(1+2")

    def test_all_short_texts(self):
        tally = 0
        for many in range(5):
            for signs in itertools.product("01a(+-?:)[=]{,}", repeat=many):
                tally += self.as_by_readings("".join(signs))
        for signs in itertools.product("0a(-)", repeat=6):
            tally += self.as_by_readings("".join(signs))
        for signs in itertools.product("1a[=]", repeat=6):
            tally += self.as_by_readings("".join(signs))
        for signs in itertools.product("1s{,}", repeat=6):
            tally += self.as_by_readings("".join(signs))
        self.assertGreater(tally, 50)

    def test_a_sign_put_in_left_out_or_changed(self):
        lines = [line for line, _ in LINES] + ["[ab=(-10?s{}:t{a,[b=2](b-0)})](ab+u{1,(2-3),c})"]
        tally = 0
        for line in lines:
            for at in range(len(line)):
                tally += self.as_by_readings(line[:at] + line[at + 1:])
                tally += self.as_by_readings(line[:at] + line[at:at + 1] + line[at:])
                for sign in SIGNS:
                    tally += self.as_by_readings(line[:at] + sign + line[at:])
                    tally += self.as_by_readings(line[:at] + sign + line[at + 1:])
            for sign in SIGNS:
                tally += self.as_by_readings(line + sign)
        self.assertGreater(tally, 1000)

    def test_signs_put_in_left_out_and_changed_by_chance(self):
        source = random.Random("signs")
        tally = 0
        pieces = [piece for piece in random_pieces("good lines", 3000, True) if size(piece) < 12]
        for piece in pieces:
            line = shown(piece)
            if len(line) > 60:
                continue
            for _ in range(source.randint(1, 3)):
                at = source.randrange(len(line) + 1)
                new = source.choice(SIGNS + list("0123(+-?:)[=]{,}") * 3 + [""])
                line = line[:at] + new + line[at + source.randrange(2):]
            tally += self.as_by_readings(line)
        self.assertGreater(tally, 100)

    def test_every_beginning_of_a_line(self):
        for line, _ in LINES:
            for end in range(len(line)):
                self.as_by_readings(line[:end])
                self.as_by_readings(line[end + 1:])


class LargeLines(Checked):
    def test_numbers_of_a_hundred_and_twenty_figures_and_more(self):
        for number in (LARGE, 10 ** 119, 10 ** 120, 10 ** 150 + 7, 10 ** 600):
            self.both_ways(str(number), num(number))
            self.both_ways(f"-{number}", num(-number))
            self.both_ways(f"(-{number}--{number})", less(num(-number), num(-number)))
            self.refused(f"0{number}")
            self.refused(f"-0{number}")
            self.refused(f"--{number}")
            self.refused(f"{number}a")

    def test_long_words(self):
        for length in (40, 41, 60, 1000):
            word = "abcdefghijklmnopqrstuvwxyz"[length % 26] * length
            self.both_ways(word, name(word))
            self.both_ways(f"[{word}={word}]{word}", let(word, name(word), name(word)))
            self.both_ways(word + "{" + word + "}", stamp(word, name(word)))
            self.refused(word + "A")

    def test_deep_lines(self):
        wraps = [
            ("(", "+2)", lambda piece: plus(piece, num(2))),
            ("(2+", ")", lambda piece: plus(num(2), piece)),
            ("(", "-2)", lambda piece: less(piece, num(2))),
            ("(2-", ")", lambda piece: less(num(2), piece)),
            ("(", "?2:3)", lambda piece: choose(piece, num(2), num(3))),
            ("(2?", ":3)", lambda piece: choose(num(2), piece, num(3))),
            ("(2?3:", ")", lambda piece: choose(num(2), num(3), piece)),
            ("[b=", "]2", lambda piece: let("b", piece, num(2))),
            ("[b=2]", "", lambda piece: let("b", num(2), piece)),
            ("s{", "}", lambda piece: stamp("s", piece)),
            ("s{", ",1}", lambda piece: stamp("s", piece, num(1))),
            ("s{1,2,", "}", lambda piece: stamp("s", num(1), num(2), piece)),
        ]
        for levels in (100, 101, 150):
            for ahead, behind, wrap in wraps:
                piece = name("a")
                for _ in range(levels - 1):
                    piece = wrap(piece)
                self.assertEqual(depth(piece), levels)
                self.both_ways(ahead * (levels - 1) + "a" + behind * (levels - 1), piece)
                self.refused(ahead * (levels - 1) + "A" + behind * (levels - 1))
                self.refused(ahead * (levels - 1) + "()" + behind * (levels - 1))
                self.refused(ahead * (levels - 1) + "a" + behind * levels + "}")
                self.refused(ahead * (levels - 1))
                if behind:
                    self.refused(ahead * (levels - 1) + "a" + behind * (levels - 2))

    def test_far_deeper_lines(self):
        line = "([a=s{" * 2000 + "1" + "}]2+3)" * 2000
        self.assertTrue(shown(read(line)) == line)
        self.refused(line[:-1])
        self.refused("(" * 5000)

    def test_two_hundred_pieces_and_more(self):
        for many in (200, 201, 300):
            numbers = [LARGE - at for at in range(many - 1)]
            line = "s{" + ",".join([str(number) for number in numbers]) + "}"
            piece = stamp("s", *[num(number) for number in numbers])
            self.assertEqual(size(piece), many)
            self.both_ways(line, piece)
            self.refused(line[:-1] + ",}")


if __name__ == "__main__":
    unittest.main()
