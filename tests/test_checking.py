import random
import unittest

from making import choose, copied_book, let, name, num, plus, random_book, random_text, stamp
from stampword.checking import check_stamps, stamps_by_word
from stampword.errors import NoStamp, StampError
from stampword.expanding import expanded
from stampword.notes import read

BOOK = [("none", [], num(1)), ("one", ["a"], name("a")), ("two", ["a", "b"], plus(name("a"), name("b")))]
WRONG = [
    stamp("away"), stamp("away", num(1)), stamp("away", num(1), num(2)), stamp("a"), stamp("on", num(1)),
    stamp("none", num(1)), stamp("none", num(1), num(2)),
    stamp("one"), stamp("one", num(1), num(2)), stamp("one", num(1), num(2), num(3)),
    stamp("two"), stamp("two", num(1)), stamp("two", num(1), num(2), num(3)),
]
RIGHT = [stamp("none"), stamp("one", num(1)), stamp("two", num(1), num(2))]
AROUND = [
    lambda piece: piece,
    lambda piece: plus(piece, num(1)), lambda piece: plus(num(1), piece),
    lambda piece: ("less", piece, num(1)), lambda piece: ("less", num(1), piece),
    lambda piece: choose(piece, num(1), num(2)), lambda piece: choose(num(1), piece, num(2)),
    lambda piece: choose(num(1), num(2), piece),
    lambda piece: let("a", piece, num(1)), lambda piece: let("a", num(1), piece),
    lambda piece: stamp("one", piece), lambda piece: stamp("two", piece, num(1)),
    lambda piece: stamp("two", num(1), piece), lambda piece: stamp("two", num(1), stamp("one", plus(piece, num(1)))),
]


class Checked(unittest.TestCase):
    def call(self, book, piece, fuel):
        before = copied_book(book)
        try:
            return expanded(book, piece, fuel)
        finally:
            self.assertEqual(book, before)

    def refused(self, book, piece):
        with self.assertRaises(NoStamp):
            check_stamps(book, piece)
        for fuel in (0, 1, 2, 30, 31, 10 ** 9):
            with self.assertRaises(NoStamp):
                self.call(book, piece, fuel)

    def refused_with_little(self, book, piece):
        for fuel in range(31):
            with self.assertRaises(NoStamp):
                self.call(book, piece, fuel)

    def taken(self, book, piece):
        self.assertIsNone(check_stamps(book, piece))
        self.assertEqual(self.call(book, piece, 1000)[0], "done")


class NoSuchStamp(Checked):
    def test_in_every_place_of_the_text(self):
        for around in AROUND:
            for piece in RIGHT:
                self.taken(BOOK, around(piece))
            for piece in WRONG:
                self.refused(BOOK, around(piece))

    def test_with_an_empty_book(self):
        self.taken([], num(1))
        for piece in RIGHT + WRONG:
            self.refused([], piece)
            self.refused([], let("a", num(1), piece))

    def test_in_every_place_of_a_body(self):
        for around in AROUND:
            for piece in WRONG:
                for used in (("new",), ("new", "one"), ("one",), ()):
                    for book in (BOOK + [("new", [], around(piece))], [("new", [], around(piece))] + BOOK):
                        text = plus(stamp("new") if "new" in used else num(1),
                                    stamp("one", num(1)) if "one" in used else num(1))
                        with self.assertRaises(NoStamp):
                            check_stamps(book, text)
                        for fuel in (0, 1, 30):
                            with self.assertRaises(NoStamp):
                                self.call(book, text, fuel)

    def test_stamps_of_any_body_may_be_used_in_any(self):
        book = BOOK + [("new", ["x"], stamp("two", stamp("none"), stamp("one", name("x"))))]
        self.taken(book, stamp("new", stamp("none")))
        self.taken(list(reversed(book)), stamp("new", stamp("none")))

    def test_in_a_piece_handed_in_that_is_left_out(self):
        book = BOOK + [("drop", ["x"], num(1))]
        self.taken(book, stamp("drop", stamp("one", num(1))))
        for around in AROUND:
            for piece in WRONG:
                self.refused(book, stamp("drop", around(piece)))
                self.refused(book + [("new", [], stamp("drop", around(piece)))], num(1))

    def test_together_with_too_little_fuel(self):
        endless = BOOK + [("on", [], stamp("on"))]
        self.assertEqual(self.call(endless, stamp("on"), 30), ("more",))
        self.refused_with_little(endless, plus(stamp("on"), stamp("away")))
        self.refused_with_little(endless, plus(stamp("away"), stamp("on")))
        self.refused_with_little(endless, stamp("on", num(1)))
        self.refused_with_little(endless + [("bad", [], stamp("away"))], stamp("on"))
        self.refused_with_little(endless + [("bad", [], stamp("one"))], stamp("on"))
        self.refused_with_little([("on", [], plus(stamp("on"), stamp("away")))], stamp("on"))
        self.refused_with_little([("on", [], plus(stamp("on"), stamp("on", num(1))))], stamp("on"))

    def test_the_words_of_names_lets_and_places_are_no_stamps(self):
        book = [("s", ["a"], let("b", name("a"), name("b")))]
        for word in ("a", "b", "c"):
            self.refused(book, let("c", num(1), stamp(word, num(1))))
            self.refused(book + [("t", ["c"], stamp(word, name("c")))], num(1))

    def test_a_stamp_and_a_place_or_let_of_its_own_word(self):
        book = [("s", ["s"], let("t", name("s"), stamp("t", plus(name("s"), name("t"))))), ("t", ["s"], name("s"))]
        self.taken(book, let("s", num(1), stamp("s", stamp("t", name("s")))))

    def test_the_refusal_is_a_stamp_error_and_a_value_error(self):
        for error in (StampError, ValueError):
            with self.assertRaises(error):
                expanded(BOOK, stamp("away"), 1)

    def test_a_refusal_leaves_nothing_behind(self):
        book = copied_book(BOOK)
        self.refused(book, stamp("away"))
        self.assertEqual(self.call(book, stamp("one", num(5)), 1), ("done", num(5), [("", (0,))], 1))
        self.refused(book, stamp("away"))
        book.append(("away", [], num(7)))
        self.assertEqual(self.call(book, stamp("away"), 1), ("done", num(7), [("away", ())], 1))

    def test_by_chance(self):
        source = random.Random("wrong stamps")
        words = ["a", "b", "x"]
        for _ in range(400):
            book, uses = random_book(source, words, True)
            text = random_text(source, 30, words, uses)
            check_stamps(book, text)
            word, many = source.choice(uses)
            wrong = stamp(word, *[num(1)] * (many + source.choice((1, 2, -1) if many else (1, 2))))
            if source.randrange(2):
                wrong = stamp("away", *[num(1)] * many)
            self.refused(book, with_a_leaf(source, text, wrong))
            at = source.randrange(len(book))
            bad = book[at][:2] + (with_a_leaf(source, book[at][2], wrong),)
            self.refused(book[:at] + [bad] + book[at + 1:], text)


def with_a_leaf(source, piece, new):
    inner = [at for at, part in enumerate(piece) if isinstance(part, tuple)]
    if not inner:
        return new
    at = source.choice(inner)
    return piece[:at] + (with_a_leaf(source, piece[at], new),) + piece[at + 1:]


class LargeTexts(Checked):
    def test_deep_in_the_text_and_in_a_body(self):
        for levels in (50, 51, 80, 1500):
            for place in ("(1+", ")"), ("(", "+1)"), ("[a=1]", ""), ("[a=", "]1"), ("drop{", "}"):
                book = [("drop", ["a"], num(1))]
                deep = read(place[0] * (levels - 1) + "away{}" + place[1] * (levels - 1))
                self.refused(book, deep)
                self.refused(book + [("deep", [], deep)], num(1))


class ByWord(unittest.TestCase):
    def test_each_stamp_by_its_word(self):
        self.assertEqual(stamps_by_word([]), {})
        self.assertEqual(stamps_by_word(BOOK), {"none": BOOK[0], "one": BOOK[1], "two": BOOK[2]})


if __name__ == "__main__":
    unittest.main()
