import copy
import symtable
import unittest

from making import (as_python, choose, depth, less, let, name, num, plus, random_pieces, size,
                    stamp)
from stampword.pieces import outside_names, parts


def global_words(table):
    words = {symbol.get_name() for symbol in table.get_symbols() if symbol.is_global()}
    for child in table.get_children():
        words |= global_words(child)
    return words


class OutsideNames(unittest.TestCase):
    def check(self, piece, words):
        before = copy.deepcopy(piece)
        answer = outside_names(piece)
        self.assertIs(type(answer), list)
        self.assertEqual(answer, words)
        self.assertEqual(piece, before)

    def test_each_sort_of_piece(self):
        self.check(num(0), [])
        self.check(num(-7), [])
        self.check(name("a"), ["a"])
        self.check(plus(name("a"), name("b")), ["a", "b"])
        self.check(less(name("a"), name("b")), ["a", "b"])
        self.check(choose(name("a"), name("b"), name("c")), ["a", "b", "c"])
        self.check(let("x", name("a"), name("b")), ["a", "b"])
        self.check(stamp("s", name("a")), ["a"])

    def test_every_place_of_a_choice_counts(self):
        for place in range(3):
            inner = [num(0), num(0), num(0)]
            inner[place] = name("a")
            self.check(choose(*inner), ["a"])

    def test_stamps_with_none_one_and_several_pieces(self):
        self.check(stamp("s"), [])
        self.check(stamp("s", num(1)), [])
        self.check(stamp("s", name("a")), ["a"])
        self.check(stamp("s", name("c"), name("a"), name("b"), name("d")), ["a", "b", "c", "d"])
        self.check(stamp("s", stamp("t", name("b")), plus(name("a"), stamp("u"))), ["a", "b"])

    def test_the_word_of_a_stamp_is_no_name(self):
        self.check(stamp("a", name("b")), ["b"])
        self.check(stamp("a", name("a")), ["a"])
        self.check(let("a", num(1), stamp("a", name("b"))), ["b"])

    def test_a_let_holds_in_pieces_handed_to_stamps(self):
        self.check(let("a", num(1), stamp("s", name("a"), name("b"))), ["b"])
        self.check(stamp("s", let("a", num(1), name("a")), name("a")), ["a"])
        self.check(stamp("s", let("a", num(1), name("a")), name("b")), ["b"])

    def test_the_word_of_a_let_is_no_name(self):
        self.check(let("a", num(1), num(2)), [])
        self.check(let("a", num(1), name("b")), ["b"])

    def test_outside_in_one_place_and_in_a_let_in_another(self):
        self.check(plus(name("a"), let("a", num(1), name("a"))), ["a"])
        self.check(plus(let("a", num(1), name("a")), name("a")), ["a"])
        self.check(plus(let("a", num(1), name("a")), let("a", num(2), name("a"))), [])
        self.check(plus(let("a", num(1), name("b")), let("b", num(2), name("a"))), ["a", "b"])

    def test_the_own_word_of_a_let_in_its_one_and_its_other(self):
        self.check(let("a", name("a"), num(1)), ["a"])
        self.check(let("a", num(1), name("a")), [])
        self.check(let("a", name("a"), name("a")), ["a"])
        self.check(let("a", plus(num(1), stamp("s", name("a"))), num(1)), ["a"])

    def test_a_let_within_a_let_of_the_same_word(self):
        self.check(let("a", num(1), let("a", num(2), name("a"))), [])
        self.check(let("a", num(1), let("a", name("a"), name("a"))), [])
        self.check(let("a", num(1), plus(let("a", num(2), name("a")), name("a"))), [])
        self.check(let("a", let("a", num(1), name("a")), name("a")), [])
        self.check(let("a", let("a", name("a"), name("a")), name("a")), ["a"])
        self.check(let("a", plus(let("a", num(1), name("a")), name("a")), name("a")), ["a"])

    def test_a_let_within_a_let_of_another_word(self):
        self.check(let("a", num(1), let("b", name("a"), plus(name("a"), name("b")))), [])
        self.check(let("a", name("b"), let("b", name("a"), name("c"))), ["b", "c"])
        self.check(let("a", let("b", num(1), name("b")), name("b")), ["b"])

    def test_each_word_once_in_the_order_of_texts(self):
        words = ["b", "z", "ab", "a", "b", "aa", "a", "abc", "zz", "y" * 40, "b"]
        self.check(stamp("s", *[name(word) for word in words]),
                   ["a", "aa", "ab", "abc", "b", "y" * 40, "z", "zz"])
        self.check(plus(name("a"), name("a")), ["a"])

    def test_words_are_taken_whole(self):
        self.check(let("ab", num(1), plus(name("a"), plus(name("abc"), name("ab")))), ["a", "abc"])

    def test_without_outside_names(self):
        self.check(choose(num(1), less(num(2), num(3)), stamp("s", let("a", num(1), name("a")))), [])

    def test_the_answer_is_the_callers_own(self):
        piece = plus(name("a"), name("b"))
        outside_names(piece).append("c")
        self.assertEqual(outside_names(piece), ["a", "b"])

    def test_as_python_tells_names_that_are_no_parameters(self):
        for piece in random_pieces("outside", 3000, True):
            words = global_words(symtable.symtable(as_python(piece), "piece", "eval"))
            self.check(piece, sorted(words))


class LargePieces(unittest.TestCase):
    def nested(self, levels, wrap, innermost):
        piece = innermost
        for level in range(levels - 1):
            piece = wrap(level, piece)
        self.assertEqual(depth(piece), levels)
        return piece

    def test_deep_in_each_place(self):
        wraps = [
            lambda level, piece: plus(piece, num(level)),
            lambda level, piece: plus(num(level), piece),
            lambda level, piece: less(piece, num(level)),
            lambda level, piece: less(num(level), piece),
            lambda level, piece: choose(piece, num(1), num(2)),
            lambda level, piece: choose(num(1), piece, num(2)),
            lambda level, piece: choose(num(1), num(2), piece),
            lambda level, piece: let("b", piece, num(2)),
            lambda level, piece: let("b", num(2), piece),
            lambda level, piece: stamp("s", piece),
            lambda level, piece: stamp("s", num(1), piece),
        ]
        for levels in (100, 101, 130, 200, 1500):
            for wrap in wraps:
                self.assertEqual(outside_names(self.nested(levels, wrap, name("a"))), ["a"])

    def test_many_lets_within_one_another(self):
        words = ["x" * 38 + one + other for one in "abcdefghijkl" for other in "abcdefghij"]
        for lets in (97, 98, 120):
            innermost = plus(name(words[0]), name(words[lets - 1]))
            piece = plus(innermost, name("q"))
            for word in words[:lets]:
                piece = let(word, num(1), piece)
            self.assertEqual(depth(piece), lets + 3)
            self.assertEqual(outside_names(piece), ["q"])
            self.assertEqual(outside_names(piece[3]), ["q", words[lets - 1]])

    def test_two_hundred_pieces_and_more(self):
        words = [one + other for one in "abcdefghijklmnopqrst" for other in "abcdefghijkl"]
        for many in (200, 201, 240):
            piece = stamp("s", *[name(word) for word in reversed(words[:many - 1])])
            self.assertEqual(size(piece), many)
            self.assertEqual(outside_names(piece), words[:many - 1])

    def test_numbers_of_a_hundred_and_twenty_figures_and_more(self):
        for figures in (120, 121, 5000):
            self.assertEqual(outside_names(plus(num(-10 ** (figures - 1)), name("a"))), ["a"])


class Parts(unittest.TestCase):
    def test_in_the_order_of_their_places(self):
        a, b, c = name("a"), num(2), name("c")
        self.assertEqual(parts(a), ())
        self.assertEqual(parts(b), ())
        self.assertEqual(parts(plus(a, b)), (a, b))
        self.assertEqual(parts(less(a, b)), (a, b))
        self.assertEqual(parts(choose(a, b, c)), (a, b, c))
        self.assertEqual(parts(let("x", a, b)), (a, b))
        self.assertEqual(parts(stamp("s")), ())
        self.assertEqual(parts(stamp("s", a, b, c)), (a, b, c))


if __name__ == "__main__":
    unittest.main()
