import copy
import unittest

from making import (KNOWN_WORDS, as_python, choose, depth, less, let, name, num, plus,
                    random_pieces, size)
from stampword.errors import NoName, StampError
from stampword.reckoning import reckoned

LARGE = 10 ** 120 - 1


class Checked(unittest.TestCase):
    def call(self, piece, known):
        piece_before = copy.deepcopy(piece)
        known_before = list(known.items())
        try:
            return reckoned(piece, known)
        finally:
            self.assertEqual(piece, piece_before)
            self.assertEqual(list(known.items()), known_before)

    def check(self, piece, known, number):
        answer = self.call(piece, known)
        self.assertIs(type(answer), int)
        self.assertEqual(answer, number)

    def refused(self, piece, known):
        with self.assertRaises(NoName):
            self.call(piece, known)


class EachSort(Checked):
    def test_a_number_is_itself(self):
        for number in (0, 1, -1, 42, LARGE, -LARGE, 10 ** 119, -10 ** 119):
            self.check(num(number), {}, number)

    def test_an_outside_name_is_the_number_known_of_it(self):
        for number in (0, 1, -1, LARGE, -LARGE):
            self.check(name("a"), {"b": 5, "a": number, "aa": 6}, number)
        self.check(name("z" * 40), {"z" * 40: 3, "z" * 39: 4}, 3)

    def test_sum(self):
        self.check(plus(num(2), num(3)), {}, 5)
        self.check(plus(num(-2), num(-3)), {}, -5)
        self.check(plus(num(2), num(-2)), {}, 0)
        self.check(plus(name("a"), name("b")), {"a": 10, "b": -4}, 6)

    def test_less_is_the_first_less_the_second(self):
        self.check(less(num(2), num(3)), {}, -1)
        self.check(less(num(3), num(2)), {}, 1)
        self.check(less(num(-2), num(-3)), {}, 1)
        self.check(less(name("a"), name("b")), {"a": 10, "b": -4}, 14)
        self.check(less(less(num(10), num(3)), num(2)), {}, 5)
        self.check(less(num(10), less(num(3), num(2))), {}, 9)

    def test_choice_takes_three_at_nought_else_two(self):
        self.check(choose(num(0), num(2), num(3)), {}, 3)
        for number in (1, -1, 2, LARGE, -LARGE):
            self.check(choose(num(number), num(2), num(3)), {}, 2)
        self.check(choose(less(num(4), num(4)), num(2), num(3)), {}, 3)
        self.check(choose(num(7), num(0), num(3)), {}, 0)
        self.check(choose(num(0), num(2), num(0)), {}, 0)

    def test_choices_within_choices(self):
        zero, one = num(0), num(1)
        self.check(choose(choose(zero, one, zero), num(2), num(3)), {}, 3)
        self.check(choose(choose(one, one, zero), num(2), num(3)), {}, 2)
        self.check(choose(one, choose(zero, num(4), num(5)), num(3)), {}, 5)
        self.check(choose(zero, num(2), choose(one, num(4), num(5))), {}, 4)
        self.check(plus(choose(one, num(2), num(3)), choose(zero, num(20), num(30))), {}, 32)

    def test_let(self):
        self.check(let("a", num(5), name("a")), {}, 5)
        self.check(let("a", num(0), name("a")), {}, 0)
        self.check(let("a", num(5), plus(name("a"), name("a"))), {}, 10)
        self.check(let("a", plus(num(2), num(3)), less(num(1), name("a"))), {}, -4)
        self.check(let("a", num(5), num(6)), {}, 6)
        self.check(let("a", num(5), name("b")), {"b": 7}, 7)

    def test_numbers_of_a_hundred_and_twenty_figures_and_more(self):
        for large in (LARGE, 10 ** 120, 10 ** 140 + 7, 10 ** 5000):
            self.check(plus(num(large), num(large)), {}, 2 * large)
            self.check(plus(num(large), num(-large)), {}, 0)
            self.check(less(num(-large), num(large)), {}, -2 * large)
            self.check(less(plus(name("a"), num(1)), name("a")), {"a": large}, 1)
            self.check(choose(less(name("a"), num(large)), num(1), num(2)), {"a": large}, 2)
            self.check(choose(less(name("a"), num(large)), num(1), num(2)), {"a": large + 1}, 1)


class Lets(Checked):
    def test_a_let_within_a_let_of_the_same_word(self):
        self.check(let("a", num(1), let("a", num(2), name("a"))), {}, 2)
        self.check(let("a", num(1), let("a", plus(name("a"), num(10)), name("a"))), {}, 11)
        self.check(let("a", let("a", num(1), plus(name("a"), num(1))), plus(name("a"), name("a"))), {}, 4)
        self.check(let("a", num(1), let("b", num(2), let("a", num(4), plus(name("a"), name("b"))))), {}, 6)

    def test_the_outer_let_holds_again_behind_the_inner_one(self):
        inner = let("a", num(2), name("a"))
        self.check(let("a", num(1), plus(inner, name("a"))), {}, 3)
        self.check(let("a", num(1), less(name("a"), inner)), {}, -1)
        self.check(let("a", num(1), less(inner, less(name("a"), inner))), {}, 3)
        self.check(let("a", num(1), choose(inner, name("a"), num(9))), {}, 1)
        self.check(let("a", num(0), let("b", inner, name("a"))), {}, 0)

    def test_a_let_whose_word_is_known_outside_as_well(self):
        self.check(let("a", num(1), name("a")), {"a": 100}, 1)
        self.check(let("a", name("a"), name("a")), {"a": 100}, 100)
        self.check(let("a", plus(name("a"), num(1)), name("a")), {"a": 100}, 101)
        self.check(plus(let("a", num(1), name("a")), name("a")), {"a": 100}, 101)
        self.check(less(name("a"), let("a", num(1), name("a"))), {"a": 100}, 99)
        self.check(let("b", let("a", num(1), name("a")), less(name("a"), name("b"))), {"a": 100}, 99)

    def test_a_name_is_the_number_of_one_where_the_let_stands(self):
        # a is 1 where b gets its number; another a further in makes no difference to b.
        piece = let("a", num(1), let("b", plus(name("a"), num(10)), let("a", num(500), name("b"))))
        self.check(piece, {}, 11)
        self.check(let("b", name("a"), let("a", num(500), name("b"))), {"a": 3}, 3)

    def test_one_is_reckoned_where_no_name_belongs_to_the_let(self):
        self.refused(let("a", name("b"), num(1)), {})
        self.refused(let("a", name("b"), name("c")), {"c": 1})
        self.refused(let("a", let("c", name("b"), num(1)), num(1)), {})
        self.check(let("a", name("b"), num(1)), {"b": 3}, 1)

    def test_one_is_reckoned_where_the_other_does_not_come_to_the_name(self):
        self.refused(let("a", name("b"), choose(num(0), name("a"), num(1))), {})

    def test_the_own_word_in_one_is_not_the_lets(self):
        self.refused(let("a", name("a"), num(1)), {})
        self.refused(let("a", name("a"), name("a")), {})


class Refusals(Checked):
    def test_no_name_in_each_place(self):
        known = {"a": 1, "n": 0}
        away = name("away")
        self.refused(away, {})
        self.refused(away, known)
        self.refused(plus(away, num(1)), known)
        self.refused(plus(num(1), away), known)
        self.refused(less(away, num(1)), known)
        self.refused(less(num(1), away), known)
        self.refused(choose(away, num(1), num(2)), known)
        self.refused(choose(name("a"), away, num(2)), known)
        self.refused(choose(name("n"), num(1), away), known)
        self.refused(let("b", away, num(2)), known)
        self.refused(let("b", num(2), away), known)

    def test_no_name_in_a_piece_that_is_not_chosen(self):
        away = name("away")
        self.check(choose(num(1), num(2), away), {}, 2)
        self.check(choose(num(0), away, num(3)), {}, 3)
        self.check(choose(num(0), let("a", away, away), plus(num(1), num(2))), {}, 3)
        self.check(choose(num(-1), choose(num(0), away, num(4)), away), {}, 4)

    def test_a_let_ends_with_its_other(self):
        self.refused(plus(let("a", num(1), name("a")), name("a")), {})
        self.refused(less(name("a"), let("a", num(1), name("a"))), {})
        self.refused(let("b", let("a", num(1), name("a")), name("a")), {})
        self.refused(choose(let("a", num(1), name("a")), name("a"), num(1)), {})

    def test_the_refusal_is_a_stamp_error_and_a_value_error(self):
        for error in (StampError, ValueError):
            with self.assertRaises(error):
                reckoned(name("a"), {})

    def test_a_refusal_leaves_nothing_behind(self):
        known = {"a": 1}
        self.refused(let("b", num(2), plus(name("b"), name("c"))), known)
        self.refused(name("b"), known)
        self.check(let("c", num(1), name("c")), known, 1)
        self.refused(name("c"), known)

    def test_a_later_number_in_known_is_seen(self):
        known = {}
        self.refused(name("a"), known)
        known["a"] = 4
        self.check(name("a"), known, 4)


class ByPythonItself(Checked):
    def test_small_pieces(self):
        refusals = 0
        for count, piece in enumerate(random_pieces("reckoned", 4000, False)):
            known = {word: (count // 8) % 5 - 2 for bit, word in enumerate(KNOWN_WORDS) if count >> bit & 1}
            try:
                number = eval(as_python(piece), {"__builtins__": {}, **known})
            except NameError:
                refusals += 1
                self.refused(piece, known)
            else:
                self.check(piece, known, number)
        self.assertGreater(refusals, 400)
        self.assertLess(refusals, 3600)


class LargePieces(Checked):
    def nested(self, levels, wrap, innermost):
        piece = innermost
        for _ in range(levels - 1):
            piece = wrap(piece)
        self.assertEqual(depth(piece), levels)
        return piece

    def test_deep_in_each_place(self):
        for levels in (100, 101, 130, 200, 1500):
            many = levels - 1
            cases = [
                (lambda piece: plus(piece, num(2)), 2 * many + 1),
                (lambda piece: plus(num(2), piece), 2 * many + 1),
                (lambda piece: less(piece, num(2)), 1 - 2 * many),
                (lambda piece: less(num(2), piece), 1),
                (lambda piece: choose(piece, num(1), num(0)), 1),
                (lambda piece: choose(num(3), piece, num(7)), 1),
                (lambda piece: choose(num(0), num(7), piece), 1),
                (lambda piece: let("b", piece, name("b")), 1),
                (lambda piece: let("b", num(7), piece), 1),
            ]
            for wrap, number in cases:
                piece = self.nested(levels, wrap, name("a"))
                self.assertEqual(reckoned(piece, {"a": 1}), number)
                with self.assertRaises(NoName):
                    reckoned(piece, {"c": 1})

    def test_doublings_by_lets_of_one_word(self):
        double = plus(name("a"), name("a"))
        for many in (49, 66, 400):
            piece = name("a")
            for _ in range(many):
                piece = let("a", double, piece)
            self.assertEqual(size(piece), 4 * many + 1)
            self.assertEqual(reckoned(piece, {"a": -3}), -3 * 2 ** many)
            piece = name("a")
            for _ in range(many):
                piece = let("a", piece, double)
            self.assertEqual(reckoned(piece, {"a": -3}), -3 * 2 ** many)

    def test_two_hundred_pieces_and_more(self):
        for leaves in (100, 101, 128):
            row = [num(LARGE if count % 2 else -count) for count in range(leaves)]
            total = sum(piece[1] for piece in row)
            while len(row) > 1:
                row = [plus(*row[at:at + 2]) if at + 1 < len(row) else row[at] for at in range(0, len(row), 2)]
            self.assertEqual(size(row[0]), 2 * leaves - 1)
            self.check(row[0], {}, total)

    def test_many_known_names(self):
        known = {one + other: ord(one) * 100 - ord(other) for one in "abcdefghij" for other in "klmnopqrst"}
        piece = num(0)
        for word in known:
            piece = plus(name(word), piece)
        self.assertEqual(size(piece), 201)
        self.assertEqual(depth(piece), 101)
        self.check(piece, known, sum(known.values()))


if __name__ == "__main__":
    unittest.main()
