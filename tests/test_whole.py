"""The modules together: texts and books by chance, held against the model and against themselves."""

import random
import unittest

from making import copied_book, inner_pieces, let, name, num, random_book, random_text
from model import TooLarge, all_nodes, head_of, meant, nameless, piece_of_node, rewritten
from stampword.comparing import same_but_words
from stampword.errors import NoName
from stampword.expanding import expanded
from stampword.notes import read, shown
from stampword.pieces import outside_names
from stampword.reckoning import reckoned

WORDS = ["a", "b", "x", "y"]
OTHER_WORDS = ["a", "b", "c", "x", "y", "z"]


def with_name(piece, word, new):
    """The piece with its outside names of a word called otherwise."""
    if piece == ("name", word):
        return ("name", new)
    if piece[0] == "let":
        other = piece[3] if piece[1] == word else with_name(piece[3], word, new)
        return ("let", piece[1], with_name(piece[2], word, new), other)
    return head_of(piece) + tuple(with_name(part, word, new) for part in inner_pieces(piece))


def with_other_lets(source, piece):
    """The piece with lets called otherwise where they may be, and the names that belong to them."""
    piece = head_of(piece) + tuple(with_other_lets(source, part) for part in inner_pieces(piece))
    if piece[0] == "let":
        word = source.choice(OTHER_WORDS)
        new = let(word, piece[2], with_name(piece[3], piece[1], word))
        if nameless(new) == nameless(piece):
            return new
    return piece


def with_other_places(source, stamp):
    """The stamp with its lets and places called otherwise: places are like lets round the body."""
    word, places, body = stamp
    body = with_other_lets(source, body)
    held = body
    for place in places:
        held = let(place, num(0), held)
    for _ in range(20):
        words = source.sample(OTHER_WORDS, len(places))
        new = body
        for number, place in enumerate(places):
            new = with_name(new, place, f"#{number}")
        for number, other in enumerate(words):
            new = with_name(new, f"#{number}", other)
        new_held = new
        for other in words:
            new_held = let(other, num(0), new_held)
        if nameless(new_held) == nameless(held):
            return (word, words, new)
    return (word, list(places), body)


def number_or_none(piece, known):
    try:
        return reckoned(piece, known)
    except NoName:
        return None


def meant_or_none(book, piece, known):
    try:
        return meant(book, piece, known)
    except KeyError:
        return None


def some_known(source):
    return {word: source.randint(-2, 2) for word in OTHER_WORDS if source.randrange(5)}


class Checked(unittest.TestCase):
    def cases(self, seed, many):
        for count in range(many):
            source = random.Random(f"{seed} {count}")
            book, uses = random_book(source, WORDS, count % 3 == 0)
            yield source, book, random_text(source, source.randint(8, 40), WORDS, uses)

    def call(self, book, piece, fuel):
        before = copied_book(book)
        answer = expanded(book, piece, fuel)
        self.assertEqual(book, before)
        return answer


class ByChance(Checked):
    def test_what_is_left_is_what_rewriting_leaves(self):
        tally = {"done": 0, "more": 0, "opened": 0}
        for source, book, piece in self.cases("left", 3000):
            fuel = source.choice((0, 1, 2, 5, 30))
            answer = self.call(book, piece, fuel)
            try:
                expected = rewritten(book, piece, fuel, source)
            except TooLarge:
                continue
            tally[answer[0]] += 1
            if expected is None:
                self.assertEqual(answer, ("more",))
                continue
            node, many = expected
            self.assertEqual((answer[0], answer[3]), ("done", many))
            self.assertEqual(nameless(answer[1]), nameless(piece_of_node(node)))
            self.assertIs(same_but_words(answer[1], piece_of_node(node)), True)
            self.assertEqual(answer[2], [one[2] for one in all_nodes(node)])
            tally["opened"] += many > 1
        self.assertGreater(min(tally.values()), 500, tally)

    def test_fuel_just_enough_and_one_too_few(self):
        for _, book, piece in self.cases("fuel", 1500):
            answer = self.call(book, piece, 40)
            if answer[0] == "done":
                self.assertEqual(self.call(book, piece, answer[3]), answer)
                if answer[3] > 0:
                    self.assertEqual(self.call(book, piece, answer[3] - 1), ("more",))
                    self.assertEqual(self.call(book, piece, 0), ("more",))

    def test_the_number_is_what_the_piece_with_its_stamps_means(self):
        tally = {"number": 0, "none": 0}
        for source, book, piece in self.cases("number", 3000):
            answer = self.call(book, piece, 40)
            if answer[0] == "done":
                known = some_known(source)
                before = dict(known)
                number = number_or_none(answer[1], known)
                self.assertEqual(number, meant_or_none(book, piece, known))
                self.assertEqual(known, before)
                tally["none" if number is None else "number"] += answer[3] > 0
        self.assertGreater(min(tally.values()), 200, tally)

    def test_outside_names_are_those_of_the_text_and_of_bodies(self):
        for _, book, piece in self.cases("outside", 1500):
            answer = self.call(book, piece, 40)
            if answer[0] == "done":
                words = outside_names(piece)
                for _, places, body in book:
                    words += [word for word in outside_names(body) if word not in places]
                self.assertLessEqual(set(outside_names(answer[1])), set(words))

    def test_sources_tell_pieces_of_the_same_sort(self):
        for _, book, piece in self.cases("sources", 1500):
            answer = self.call(book, piece, 40)
            if answer[0] == "done":
                homes = {word: body for word, _, body in book}
                homes[""] = piece
                left = [answer[1]]
                for home, path in answer[2]:
                    current = left.pop(0)
                    left[:0] = inner_pieces(current)
                    written = homes[home]
                    for place in path:
                        written = inner_pieces(written)[place]
                    self.assertEqual(written[0], current[0])
                    if current[0] == "number":
                        self.assertEqual(written, current)
                self.assertEqual(left, [])

    def test_what_is_left_is_written_and_read(self):
        for _, book, piece in self.cases("lines", 1000):
            self.assertEqual(read(shown(piece)), piece)
            answer = self.call(book, piece, 40)
            if answer[0] == "done":
                self.assertEqual(read(shown(answer[1])), answer[1])
                again = self.call(book, answer[1], 0)
                self.assertIs(same_but_words(again[1], answer[1]), True)
                self.assertEqual(again[3], 0)

    def test_the_order_of_the_book_makes_no_difference(self):
        for source, book, piece in self.cases("order", 600):
            other = list(book)
            source.shuffle(other)
            self.assertEqual(self.call(other, piece, 30), self.call(book, piece, 30))


class CalledOtherwise(Checked):
    def same(self, source, book, piece, new_book, new_piece):
        one = self.call(book, piece, 30)
        other = self.call(new_book, new_piece, 30)
        self.assertEqual(one[0], other[0])
        if one[0] == "done":
            self.assertIs(same_but_words(one[1], other[1]), True, (shown(one[1]), shown(other[1])))
            self.assertEqual(one[2:], other[2:])
            known = some_known(source)
            self.assertEqual(number_or_none(one[1], known), number_or_none(other[1], known))
        return one[0] == "done" and one[3] > 0 and (book, piece) != (new_book, new_piece)

    def test_places_and_lets_of_stamps(self):
        tally = 0
        for source, book, piece in self.cases("stamps", 2000):
            tally += self.same(source, book, piece, [with_other_places(source, stamp) for stamp in book], piece)
        self.assertGreater(tally, 500)

    def test_lets_of_the_text(self):
        tally = 0
        for source, book, piece in self.cases("text", 2000):
            tally += self.same(source, book, piece, book, with_other_lets(source, piece))
        self.assertGreater(tally, 300)

    def test_both(self):
        for source, book, piece in self.cases("both", 2000):
            new_book = [with_other_places(source, stamp) for stamp in book]
            self.same(source, book, piece, new_book, with_other_lets(source, piece))

    def test_a_piece_without_stamps_by_itself(self):
        tally = 0
        for source, _, _ in self.cases("plain", 1000):
            plain = random_text(source, source.randint(1, 40), WORDS, [])
            other = with_other_lets(source, plain)
            self.assertIs(same_but_words(plain, other), True)
            self.assertEqual(outside_names(plain), outside_names(other))
            known = some_known(source)
            self.assertEqual(number_or_none(plain, known), number_or_none(other, known))
            tally += plain != other
        self.assertGreater(tally, 300)

    def test_an_outside_name_called_otherwise_is_another(self):
        for _, book, piece in self.cases("other outside", 1000):
            answer = self.call(book, piece, 30)
            if answer[0] == "done":
                new = with_name(answer[1], "a", "zz")
                self.assertIs(same_but_words(answer[1], new), "a" not in outside_names(answer[1]))


class Numbers(unittest.TestCase):
    def test_a_number_at_each_sort_of_stamp(self):
        book = [("twice", ["x"], read("[a=x](a+a)")), ("if", ["x", "y"], read("(x?y:a)")), ("one", [], read("1"))]
        cases = [
            ("twice{21}", 42), ("[a=5]twice{a}", 10), ("twice{twice{twice{1}}}", 8),
            ("[a=5]if{0,a}", 100), ("[a=5]if{1,a}", 5), ("if{one{},twice{a}}", 200), ("[x=3]twice{(x-a)}", -194),
        ]
        for line, number in cases:
            answer = expanded(book, read(line), 30)
            self.assertEqual(reckoned(answer[1], {"a": 100}), number, line)

    def test_large_numbers(self):
        large = 10 ** 120 - 1
        book = [("s", ["x"], read(f"[a=(x+{large})](a-x)"))]
        answer = expanded(book, read(f"[a=-{large}]s{{a}}"), 1)
        self.assertEqual(reckoned(answer[1], {}), large)
        self.assertEqual(read(shown(answer[1])), answer[1])

    def test_a_name_that_is_not_known_is_only_refused_where_it_comes_to_be_reckoned(self):
        book = [("s", ["x", "y"], read("(x?y:away)"))]
        self.assertEqual(reckoned(expanded(book, read("s{1,2}"), 1)[1], {}), 2)
        with self.assertRaises(NoName):
            reckoned(expanded(book, read("s{0,2}"), 1)[1], {})
        with self.assertRaises(NoName):
            reckoned(expanded(book, read("[away=5]s{0,2}"), 1)[1], {})
        with self.assertRaises(NoName):
            reckoned(expanded(book, read("s{1,other}"), 1)[1], {})
        self.assertEqual(reckoned(expanded([("s", ["x"], num(3))], ("stamp", "s", name("other")), 1)[1], {}), 3)


if __name__ == "__main__":
    unittest.main()
