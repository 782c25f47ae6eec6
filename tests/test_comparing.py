import ast
import random
import unittest

from making import choose, depth, less, let, name, num, plus, random_piece, random_pieces, size
from model import nameless
from stampword.comparing import same_but_words


class Checked(unittest.TestCase):
    def check(self, one, other, answer):
        # Pieces are tuples of tuples, numbers and texts: they cannot be changed by a call.
        self.assertIs(same_but_words(one, other), answer)
        self.assertIs(same_but_words(other, one), answer)

    def same(self, one, other):
        self.check(one, other, True)

    def differ(self, one, other):
        self.check(one, other, False)


class SameButWords(Checked):
    def test_a_piece_and_itself(self):
        for piece in random_pieces("itself", 300, False):
            self.same(piece, ast.literal_eval(repr(piece)))

    def test_numbers(self):
        self.same(num(0), num(0))
        self.differ(num(0), num(1))
        self.differ(num(1), num(-1))
        self.same(num(10 ** 119), num(10 ** 119))
        self.differ(num(10 ** 119), num(10 ** 119 + 1))
        self.differ(plus(num(1), num(2)), plus(num(1), num(3)))
        self.differ(let("a", num(1), name("a")), let("a", num(2), name("a")))

    def test_outside_names(self):
        self.same(name("a"), name("a"))
        self.differ(name("a"), name("b"))
        self.differ(name("a"), name("aa"))
        self.same(plus(name("a"), name("b")), plus(name("a"), name("b")))
        self.differ(plus(name("a"), name("b")), plus(name("b"), name("a")))
        self.differ(let("x", num(1), name("a")), let("x", num(1), name("b")))
        self.differ(let("x", name("a"), num(1)), let("x", name("b"), num(1)))
        self.same(let("x", name("a"), name("b")), let("y", name("a"), name("b")))

    def test_sorts(self):
        one, two = num(1), num(2)
        sorts = [one, name("a"), plus(one, two), less(one, two), choose(one, two, two), let("a", one, two)]
        for at, piece in enumerate(sorts):
            for place, other in enumerate(sorts):
                self.check(piece, other, at == place)
                self.check(let("b", piece, two), let("c", other, two), at == place)
                self.check(let("b", two, piece), let("c", two, other), at == place)
                self.check(choose(two, two, piece), choose(two, two, other), at == place)

    def test_every_place_counts(self):
        wraps = [
            lambda inner: plus(inner, num(9)), lambda inner: plus(num(9), inner),
            lambda inner: less(inner, num(9)), lambda inner: less(num(9), inner),
            lambda inner: choose(inner, num(8), num(9)), lambda inner: choose(num(8), inner, num(9)),
            lambda inner: choose(num(8), num(9), inner),
            lambda inner: let("z", inner, num(9)), lambda inner: let("z", num(9), inner),
        ]
        for wrap in wraps:
            self.same(wrap(let("a", num(1), name("a"))), wrap(let("b", num(1), name("b"))))
            self.differ(wrap(num(1)), wrap(num(2)))
            self.differ(wrap(name("a")), wrap(name("b")))

    def test_lets_of_other_words(self):
        self.same(let("a", num(1), name("a")), let("b", num(1), name("b")))
        self.same(let("a", num(1), num(2)), let("b", num(1), num(2)))
        self.same(let("a", num(1), name("c")), let("b", num(1), name("c")))
        self.same(let("a", num(1), let("b", num(2), less(name("a"), name("b")))),
                  let("b", num(1), let("a", num(2), less(name("b"), name("a")))))
        self.same(let("a", name("a"), name("a")), let("b", name("a"), name("b")))

    def test_a_name_of_a_let_and_an_outside_name(self):
        self.differ(let("a", num(1), name("a")), let("b", num(1), name("a")))
        self.differ(let("a", num(1), name("b")), let("b", num(1), name("b")))
        self.differ(let("a", num(1), name("a")), let("a", num(1), name("b")))
        self.differ(let("a", num(1), name("b")), let("b", num(1), name("a")))
        self.differ(let("a", name("a"), num(1)), let("b", name("b"), num(1)))

    def test_a_name_that_belongs_to_another_let(self):
        def two(inner):
            return let("a", num(1), let("b", num(1), inner))

        self.differ(two(name("a")), two(name("b")))
        self.differ(two(less(name("a"), name("b"))), two(less(name("b"), name("a"))))
        self.same(two(name("a")), let("b", num(1), let("a", num(1), name("b"))))
        self.differ(two(name("a")), let("b", num(1), let("a", num(1), name("a"))))
        # Two names that belong to one let, and one to each of two.
        self.differ(two(plus(name("a"), name("b"))), two(plus(name("a"), name("a"))))
        self.differ(two(plus(name("a"), name("b"))), two(plus(name("b"), name("b"))))

    def test_a_let_within_a_let_of_the_same_word(self):
        self.same(let("a", num(1), let("a", num(2), name("a"))), let("b", num(1), let("c", num(2), name("c"))))
        self.differ(let("a", num(1), let("a", num(2), name("a"))), let("b", num(1), let("c", num(2), name("b"))))
        self.same(let("a", num(1), let("a", name("a"), name("a"))), let("b", num(1), let("c", name("b"), name("c"))))
        self.differ(let("a", num(1), let("a", name("a"), name("a"))),
                    let("b", num(1), let("c", name("c"), name("c"))))
        self.same(let("a", num(1), plus(let("a", num(2), name("a")), name("a"))),
                  let("b", num(1), plus(let("c", num(2), name("c")), name("b"))))
        self.same(let("a", let("a", num(1), name("a")), name("a")), let("b", let("c", num(1), name("c")), name("b")))

    def test_a_let_ends_with_its_other(self):
        self.differ(plus(let("a", num(1), name("a")), name("a")), plus(let("b", num(1), name("b")), name("b")))
        self.same(plus(let("a", num(1), name("a")), name("a")), plus(let("b", num(1), name("b")), name("a")))
        self.differ(plus(name("a"), let("a", num(1), name("a"))), plus(name("b"), let("b", num(1), name("b"))))
        self.same(plus(let("a", num(1), name("a")), let("a", num(1), name("a"))),
                  plus(let("a", num(1), name("a")), let("b", num(1), name("b"))))


def changed_words(source, piece):
    """The piece with some of its words changed, whatever comes of it."""
    if piece[0] in ("name", "let") and source.randrange(2):
        piece = (piece[0], source.choice("abc")) + piece[2:]
    return tuple(changed_words(source, part) if isinstance(part, tuple) else part for part in piece)


class ByTheModel(Checked):
    def test_pieces_with_words_changed_by_chance(self):
        source = random.Random("changed")
        tally = {True: 0, False: 0}
        for count in range(6000):
            one = random_piece(source, 1 + count % 5, False)
            other = changed_words(source, one)
            answer = nameless(one) == nameless(other)
            self.check(one, other, answer)
            tally[answer] += one != other
        self.assertGreater(min(tally.values()), 200, tally)

    def test_two_pieces_by_chance(self):
        pieces = random_pieces("two", 240, False)
        forms = [nameless(piece) for piece in pieces]
        for at, one in enumerate(pieces):
            for place in range(0, at, 3):
                self.check(one, pieces[place], forms[at] == forms[place])


class LargePieces(Checked):
    def deep(self, levels, word, innermost):
        piece = innermost
        for level in range(levels - 1):
            if level % 2:
                piece = let(word(level), num(level), piece)
            else:
                piece = plus(piece, num(level))
        self.assertEqual(depth(piece), levels)
        return piece

    def test_deep_pieces(self):
        for levels in (100, 101, 150, 1501):
            for outer in (True, False):
                inner = name("b") if outer else name("a")
                one = self.deep(levels, lambda level: "a", inner)
                other = self.deep(levels, lambda level: "b" * (level + 1), name("b" if outer else "bb"))
                self.same(one, other)
                self.differ(one, self.deep(levels, lambda level: "b" * (level + 1), name("bbbb")))
                self.differ(one, self.deep(levels, lambda level: "a", num(0)))

    def test_wide_pieces(self):
        for leaves in (100, 101, 150):
            row = [let("a", num(at), name("a")) if at % 2 else num(at) for at in range(leaves)]
            other = [let("c", num(at), name("c")) if at % 2 else num(at) for at in range(leaves)]
            pair = []
            for pieces in (row, other):
                while len(pieces) > 1:
                    pieces = [plus(*pieces[at:at + 2]) if at + 1 < len(pieces) else pieces[at]
                              for at in range(0, len(pieces), 2)]
                pair.append(pieces[0])
            self.assertGreater(size(pair[0]), 200)
            self.same(*pair)
            self.differ(pair[0], plus(pair[0], num(0)))


if __name__ == "__main__":
    unittest.main()
