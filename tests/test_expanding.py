import random
import unittest

from making import copied_book, depth, inner_pieces, let, name, num, plus, size, stamp
from model import all_nodes, nameless, piece_of_node, rewritten
from stampword.comparing import same_but_words
from stampword.expanding import expanded
from stampword.notes import read, shown


def book_of(*rows):
    """Stamps from rows such as ("s", "x y", "(x+y)")."""
    return [(word, places.split(), read(line)) for word, places, line in rows]


def sources_of(text):
    """Sources from a text such as ": :0 s:10", each the home, a colon, and the places that lead to it."""
    pairs = [part.split(":") for part in text.split()]
    return [(home, tuple(int(place) for place in path)) for home, path in pairs]


def words_of_lets(piece):
    words = [piece[1]] if piece[0] == "let" else []
    for part in inner_pieces(piece):
        words += words_of_lets(part)
    return words


class Checked(unittest.TestCase):
    def call(self, book, piece, fuel):
        before = copied_book(book)
        answer = expanded(book, piece, fuel)
        self.assertEqual(book, before)
        self.assertIs(type(answer), tuple)
        return answer

    def check_kinds(self, answer):
        self.assertEqual(len(answer), 4)
        kind, piece, sources, many = answer
        self.assertEqual(kind, "done")
        self.assertIs(type(piece), tuple)
        self.assertIs(type(sources), list)
        self.assertIs(type(many), int)
        for source in sources:
            self.assertIs(type(source), tuple)
            self.assertIs(type(source[0]), str)
            self.assertIs(type(source[1]), tuple)
            self.assertTrue(all(type(place) is int for place in source[1]))
        self.assertEqual(len(sources), size(piece))
        for word in words_of_lets(piece):
            self.assertRegex(word, r"\A[a-z]{1,40}\Z")

    def check_left(self, answer, left, sources, many):
        self.check_kinds(answer)
        self.assertEqual(nameless(answer[1]), nameless(left), shown(answer[1]))
        self.assertIs(same_but_words(answer[1], left), True)
        self.assertEqual(answer[2], sources)
        self.assertEqual(answer[3], many)

    def check_fuel(self, book, piece, left, sources, many):
        for fuel in (many, many + 1, many + 30, 10 ** 30):
            self.check_left(self.call(book, piece, fuel), left, sources, many)
        for fuel in range(many):
            self.assertEqual(self.call(book, piece, fuel), ("more",))

    def check(self, rows, text, left, sources, many):
        book = book_of(*rows)
        piece = read(text)
        self.check_fuel(book, piece, read(left), sources_of(sources), many)
        self.check_fuel(list(reversed(book)), piece, read(left), sources_of(sources), many)
        node, steps = rewritten(book, piece, many, random.Random(text))
        self.assertEqual(steps, many)
        self.assertEqual(nameless(piece_of_node(node)), nameless(read(left)))
        self.assertEqual([one[2] for one in all_nodes(node)], sources_of(sources))

    def endless(self, rows, text, *fuels):
        book = book_of(*rows)
        for fuel in fuels or range(41):
            self.assertEqual(self.call(book, read(text), fuel), ("more",))


class WithoutStamps(Checked):
    def test_each_sort_of_piece(self):
        for rows in ((), (("s", "x", "(x+a)"),), (("s", "", "s{}"),)):
            self.check(rows, "5", "5", ":", 0)
            self.check(rows, "-5", "-5", ":", 0)
            self.check(rows, "a", "a", ":", 0)
            self.check(rows, "(1+a)", "(1+a)", ": :0 :1", 0)
            self.check(rows, "(1-a)", "(1-a)", ": :0 :1", 0)
            self.check(rows, "(a?1:2)", "(a?1:2)", ": :0 :1 :2", 0)
            self.check(rows, "[a=1]a", "[a=1]a", ": :0 :1", 0)

    def test_the_order_of_the_sources(self):
        self.check((), "((1+2)-(a?(3-4):5))", "((1+2)-(a?(3-4):5))",
                   ": :0 :00 :01 :1 :10 :11 :110 :111 :12", 0)
        self.check((), "[a=(1+2)](a-[b=3]b)", "[a=(1+2)](a-[b=3]b)", ": :0 :00 :01 :1 :10 :11 :110 :111", 0)

    def test_lets(self):
        self.check((), "[a=a]a", "[b=a]b", ": :0 :1", 0)
        self.check((), "[a=1][a=a]a", "[a=1][b=a]b", ": :0 :1 :10 :11", 0)
        self.check((), "[a=[a=1]a]a", "[b=[a=1]a]b", ": :0 :00 :01 :1", 0)
        self.check((), "(a+[a=1]a)", "(a+[b=1]b)", ": :0 :1 :10 :11", 0)
        self.check((), "([a=1]a+[a=2]a)", "([a=1]a+[b=2]b)", ": :0 :00 :01 :1 :10 :11", 0)
        self.check((), "[a=1]([a=2]a+a)", "[a=1]([b=2]b+a)", ": :0 :1 :10 :100 :101 :11", 0)
        self.check((), "[a=1](b+a)", "[c=1](b+c)", ": :0 :1 :10 :11", 0)


class Places(Checked):
    def test_no_place(self):
        rows = [("s", "", "(1+c)")]
        self.check(rows, "s{}", "(1+c)", "s: s:0 s:1", 1)
        self.check(rows, "(s{}-s{})", "((1+c)-(1+c))", ": s: s:0 s:1 s: s:0 s:1", 2)
        self.check(rows, "(1?s{}:c)", "(1?(1+c):c)", ": :0 s: s:0 s:1 :2", 1)

    def test_one_place(self):
        self.check([("s", "x", "(x+1)")], "s{5}", "(5+1)", "s: :0 s:1", 1)
        self.check([("s", "x", "(1-x)")], "s{(a+b)}", "(1-(a+b))", "s: s:0 :0 :00 :01", 1)
        self.check([("s", "x", "x")], "s{(1+2)}", "(1+2)", ":0 :00 :01", 1)
        self.check([("s", "x", "x")], "(s{5}+s{6})", "(5+6)", ": :00 :10", 2)
        self.check([("s", "x", "(x?x:1)")], "s{a}", "(a?a:1)", "s: :0 :0 s:2", 1)

    def test_two_places(self):
        self.check([("s", "x y", "(x-y)")], "s{1,2}", "(1-2)", "s: :0 :1", 1)
        self.check([("s", "x y", "(y-x)")], "s{1,2}", "(2-1)", "s: :1 :0", 1)
        self.check([("s", "y x", "(x-y)")], "s{1,2}", "(2-1)", "s: :1 :0", 1)
        self.check([("s", "x y", "x")], "s{1,2}", "1", ":0", 1)
        self.check([("s", "x y", "y")], "s{1,2}", "2", ":1", 1)
        self.check([("s", "x y", "(x?y:(x-y))")], "s{1,2}", "(1?2:(1-2))", "s: :0 :1 s:2 :0 :1", 1)

    def test_three_places(self):
        self.check([("s", "x y z", "(z?y:x)")], "s{1,2,3}", "(3?2:1)", "s: :2 :1 :0", 1)

    def test_a_place_that_is_not_used(self):
        self.check([("s", "x", "7")], "s{(1+2)}", "7", "s:", 1)
        self.check([("s", "x", "7"), ("t", "", "3")], "s{t{}}", "7", "s:", 1)
        self.check([("s", "x", "7"), ("t", "", "3")], "s{s{(t{}+s{t{}})}}", "7", "s:", 1)
        self.check([("s", "x y", "(y+y)"), ("t", "", "3")], "s{t{},t{}}", "(3+3)", "s: t: t:", 3)
        self.check([("s", "x", "[x=1]x"), ("t", "", "3")], "s{t{}}", "[x=1]x", "s: s:0 s:1", 1)

    def test_a_place_that_is_used_often(self):
        rows = [("s", "x", "(x+x)"), ("t", "", "3")]
        self.check(rows, "s{5}", "(5+5)", "s: :0 :0", 1)
        self.check(rows, "s{t{}}", "(3+3)", "s: t: t:", 3)
        self.check(rows, "s{s{5}}", "((5+5)+(5+5))", "s: s: :00 :00 s: :00 :00", 3)
        self.check(rows, "s{s{t{}}}", "((3+3)+(3+3))", "s: s: t: t: s: t: t:", 7)
        self.check([("s", "x y", "(x?y:(y+(x+y)))"), ("t", "", "3")], "s{t{},(t{}-1)}",
                   "(3?(3-1):((3-1)+(3+(3-1))))",
                   "s: t: :1 t: :11 s:2 :1 t: :11 s:21 t: :1 t: :11", 6)

    def test_a_stamp_in_a_piece_handed_to_a_stamp(self):
        rows = [("s", "x", "(x+1)"), ("t", "y", "(2-y)")]
        self.check(rows, "s{t{5}}", "((2-5)+1)", "s: t: t:0 :00 s:1", 2)
        self.check(rows, "s{(t{5}+6)}", "(((2-5)+6)+1)", "s: :0 t: t:0 :000 :01 s:1", 2)
        self.check(rows, "s{s{s{5}}}", "(((5+1)+1)+1)", "s: s: s: :000 s:1 s:1 s:1", 3)

    def test_places_may_have_the_words_of_stamps(self):
        self.check([("s", "s t", "t{(s-t)}"), ("t", "t", "(t+t)")], "s{1,2}", "((1-2)+(1-2))",
                   "t: s:0 :0 :1 s:0 :0 :1", 2)


class StampsInBodies(Checked):
    def test_a_place_is_handed_on(self):
        self.check([("s", "x", "(t{x}+1)"), ("t", "y", "(y-y)")], "s{5}", "((5-5)+1)", "s: t: :0 :0 s:1", 2)
        self.check([("s", "x", "t{x}"), ("t", "x", "(x+1)")], "s{5}", "(5+1)", "t: :0 t:1", 2)
        self.check([("s", "x y", "t{y,x}"), ("t", "x y", "(x-y)")], "s{1,2}", "(2-1)", "t: :1 :0", 2)
        self.check([("s", "x", "t{x}"), ("t", "x", "u{x}"), ("u", "x", "x")], "s{5}", "5", ":0", 3)

    def test_a_piece_with_a_place_in_it_is_handed_on(self):
        self.check([("s", "x", "t{(x+2)}"), ("t", "y", "(y-y)")], "s{5}", "((5+2)-(5+2))",
                   "t: s:0 :0 s:01 s:0 :0 s:01", 2)
        self.check([("s", "x", "t{(x+2)}"), ("t", "x", "u{(x-3)}"), ("u", "x", "(x+x)")], "s{5}",
                   "(((5+2)-3)+((5+2)-3))", "u: t:0 s:0 :0 s:01 t:01 t:0 s:0 :0 s:01 t:01", 3)

    def test_stamps_that_are_handed_on_count_each_time(self):
        self.check([("s", "x", "t{x}"), ("t", "y", "(y-y)"), ("u", "", "8")], "s{u{}}", "(8-8)", "t: u: u:", 4)
        self.check([("s", "x", "t{(x+u{})}"), ("t", "y", "(y-y)"), ("u", "", "8")], "s{u{}}",
                   "((8+8)-(8+8))", "t: s:0 u: u: s:0 u: u:", 6)
        self.check([("s", "x", "t{u{}}"), ("t", "y", "1"), ("u", "", "8")], "s{u{}}", "1", "t:", 2)
        self.check([("s", "x y", "t{x}"), ("t", "y", "(y+y)"), ("u", "", "8")], "s{5,u{}}", "(5+5)", "t: :0 :0", 2)

    def test_a_stamp_may_be_used_in_bodies_of_stamps_ahead_of_it_and_behind(self):
        self.check([("t", "y", "(y+u{})"), ("s", "x", "t{x}"), ("u", "", "4")], "s{5}", "(5+4)", "t: :0 u:", 3)

    def test_stamps_in_lets(self):
        self.check([("s", "x", "[a=t{x}]t{a}"), ("t", "x", "(x+1)")], "s{5}", "[a=(5+1)](a+1)",
                   "s: t: :0 t:1 t: s:10 t:1", 3)


class NamesAndLets(Checked):
    def test_a_let_of_a_body_with_the_word_of_a_name_handed_in(self):
        self.check([("s", "x", "[a=1](x+a)")], "s{a}", "[b=1](a+b)", "s: s:0 s:1 :0 s:11", 1)
        self.check([("s", "x", "[a=x](x+a)")], "s{a}", "[b=a](a+b)", "s: :0 s:1 :0 s:11", 1)
        self.check([("s", "x", "[a=1](x+a)")], "[a=2]s{a}", "[a=2][b=1](a+b)", ": :0 s: s:0 s:1 :10 s:11", 1)
        self.check([("s", "x", "[a=1][a=a](x+a)")], "s{a}", "[b=1][c=b](a+c)",
                   "s: s:0 s:1 s:10 s:11 :0 s:111", 1)
        self.check([("s", "x y", "[a=1][b=2]((x-y)+(a-b))")], "s{b,a}", "[c=1][d=2]((b-a)+(c-d))",
                   "s: s:0 s:1 s:10 s:11 s:110 :0 :1 s:111 s:1110 s:1111", 1)

    def test_a_let_of_a_body_with_the_word_of_a_name_deep_in_what_is_handed_in(self):
        self.check([("s", "x", "[a=1](x+a)")], "s{[c=a](a-c)}", "[b=1]([c=a](a-c)+b)",
                   "s: s:0 s:1 :0 :00 :01 :010 :011 s:11", 1)
        self.check([("s", "x", "[a=1](x+a)"), ("t", "y", "[a=2](y-a)")], "s{t{a}}", "[b=1]([c=2](a-c)+b)",
                   "s: s:0 s:1 t: t:0 t:1 :00 t:11 s:11", 2)

    def test_a_let_of_a_body_with_the_word_of_a_place(self):
        self.check([("s", "x", "[x=(x+1)](x+x)")], "s{5}", "[x=(5+1)](x+x)", "s: s:0 :0 s:01 s:1 s:10 s:11", 1)
        self.check([("s", "x", "([x=1]x+x)")], "s{5}", "([x=1]x+5)", "s: s:0 s:00 s:01 :0", 1)
        self.check([("s", "x", "[x=1]t{x}"), ("t", "y", "(y+y)")], "s{5}", "[x=1](x+x)",
                   "s: s:0 t: s:10 s:10", 2)
        self.check([("s", "x y", "[x=y](x-y)")], "s{x,y}", "[a=y](a-y)", "s: :1 s:1 s:10 :1", 1)
        self.check([("s", "x", "[y=x][x=y](x-y)")], "s{y}", "[a=y][b=a](b-a)",
                   "s: :0 s:1 s:10 s:11 s:110 s:111", 1)
        # The handed piece has a stamp to be opened, and the let hides it all the same.
        self.check([("s", "x", "[x=1](x+x)"), ("t", "", "4")], "s{t{}}", "[x=1](x+x)", "s: s:0 s:1 s:10 s:11", 1)

    def test_a_let_round_the_stamp_with_the_word_of_an_outside_name_of_the_body(self):
        self.check([("s", "", "a")], "[a=1]s{}", "[b=1]a", ": :0 s:", 1)
        self.check([("s", "", "a")], "[a=1](s{}+a)", "[b=1](a+b)", ": :0 :1 s: :11", 1)
        self.check([("s", "x", "(x-a)")], "[a=1]s{a}", "[b=1](b-a)", ": :0 s: :10 s:1", 1)
        self.check([("s", "x", "(x-a)")], "[a=1][b=2]s{(a-b)}", "[c=1][b=2]((c-b)-a)",
                   ": :0 :1 :10 s: :110 :1100 :1101 s:1", 1)
        self.check([("s", "", "t{a}"), ("t", "x", "[a=3](a-x)")], "[a=1]s{}", "[b=1][c=3](c-a)",
                   ": :0 t: t:0 t:1 t:10 s:0", 2)
        self.check([("s", "", "[a=1]t{}"), ("t", "", "a")], "s{}", "[b=1]a", "s: s:0 t:", 2)

    def test_a_let_round_the_stamp_with_the_word_of_a_place(self):
        self.check([("s", "x", "(x+1)")], "[x=2]s{x}", "[x=2](x+1)", ": :0 s: :10 s:1", 1)
        self.check([("s", "x", "(x+1)")], "[x=2]s{5}", "[x=2](5+1)", ": :0 s: :10 s:1", 1)
        self.check([("s", "x y", "(x-y)")], "[x=2][y=3]s{y,x}", "[x=2][y=3](y-x)",
                   ": :0 :1 :10 s: :110 :111", 1)

    def test_a_let_round_the_stamp_with_the_word_of_a_let_of_the_body(self):
        self.check([("s", "x", "[t=1](x+t)")], "[t=5]s{t}", "[t=5][u=1](t+u)", ": :0 s: s:0 s:1 :10 s:11", 1)
        self.check([("s", "x", "[t=1](x+t)")], "[t=5]s{s{t}}", "[t=5][u=1]([v=1](t+v)+u)",
                   ": :0 s: s:0 s:1 s: s:0 s:1 :100 s:11 s:11", 2)
        self.check([("s", "", "[t=1]t")], "[t=5](s{}-t)", "[t=5]([u=1]u-t)", ": :0 :1 s: s:0 s:1 :11", 1)
        self.check([("s", "", "[t=1]t")], "[t=s{}]t", "[t=[u=1]u]t", ": s: s:0 s:1 :1", 1)

    def test_a_name_handed_in_that_belongs_to_a_let_of_the_text(self):
        self.check([("s", "x", "[b=2]x")], "[a=1]s{a}", "[a=1][b=2]a", ": :0 s: s:0 :10", 1)
        self.check([("s", "x", "x")], "[a=1][a=2]s{a}", "[b=1][a=2]a", ": :0 :1 :10 :110", 1)
        self.check([("s", "x", "x")], "[a=1]s{[a=a]a}", "[a=1][b=a]b", ": :0 :10 :100 :101", 1)
        self.check([("s", "x", "x")], "[a=1](s{[a=2]a}-a)", "[a=1]([b=2]b-a)", ": :0 :1 :100 :1000 :1001 :11", 1)

    def test_a_name_handed_in_that_belongs_to_a_let_of_a_body(self):
        rows = [("s", "", "[a=1]t{a}"), ("t", "x", "[a=2](x-a)")]
        self.check(rows, "s{}", "[a=1][b=2](a-b)", "s: s:0 t: t:0 t:1 s:10 t:11", 2)
        self.check(rows, "[a=7](s{}-a)", "[a=7]([b=1][c=2](b-c)-a)",
                   ": :0 :1 s: s:0 t: t:0 t:1 s:10 t:11 :11", 2)
        self.check([("s", "x", "[a=x]t{(a-x)}"), ("t", "x", "[a=2](x-a)")], "s{a}", "[b=a][c=2]((b-a)-c)",
                   "s: :0 t: t:0 t:1 s:10 s:100 :0 t:11", 2)

    def test_a_name_handed_in_that_belongs_to_no_let(self):
        self.check([("s", "", "t{a}"), ("t", "x", "[a=2](x-a)")], "s{}", "[b=2](a-b)", "t: t:0 t:1 s:0 t:11", 2)
        self.check([("s", "x", "[a=2](x-a)")], "(s{a}-[a=1]a)", "([b=2](a-b)-[c=1]c)",
                   ": s: s:0 s:1 :00 s:11 :1 :10 :11", 1)

    def test_a_name_handed_in_with_the_word_of_a_place(self):
        self.check([("s", "x", "(x+x)")], "s{x}", "(x+x)", "s: :0 :0", 1)
        self.check([("s", "x y", "(x-y)")], "s{y,x}", "(y-x)", "s: :0 :1", 1)
        self.check([("s", "x y", "(x-y)")], "s{y,s{x,y}}", "(y-(x-y))", "s: :0 s: :10 :11", 2)
        self.check([("s", "x", "t{x,(x+y)}"), ("t", "x y", "(x-y)")], "s{y}", "(y-(y+y))",
                   "t: :0 s:1 :0 s:11", 2)
        self.check([("s", "x", "t{y}"), ("t", "y", "(y-x)")], "s{5}", "(y-x)", "t: s:0 t:1", 2)

    def test_a_place_is_no_place_of_another_body(self):
        self.check([("s", "x", "t{}"), ("t", "", "x")], "s{5}", "x", "t:", 2)
        self.check([("s", "x", "(t{1}-x)"), ("t", "y", "(x-y)")], "s{5}", "((x-1)-5)", "s: t: t:0 s:00 :0", 2)

    def test_a_piece_handed_in_with_lets_of_its_own(self):
        self.check([("s", "x", "(x-x)")], "s{[a=1]a}", "([a=1]a-[b=1]b)", "s: :0 :00 :01 :0 :00 :01", 1)
        self.check([("s", "x", "[a=x](x-a)")], "s{[a=1]a}", "[b=[c=1]c]([d=1]d-b)",
                   "s: :0 :00 :01 s:1 :0 :00 :01 s:11", 1)
        self.check([("s", "x", "[a=2](x-a)")], "s{[a=1](a+x)}", "[b=2]([a=1](a+x)-b)",
                   "s: s:0 s:1 :0 :00 :01 :010 :011 s:11", 1)


class MadeWords(Checked):
    def check_by_rewriting(self, book, piece):
        node, many = rewritten(book, piece, 100, random.Random(0))
        answer = self.call(book, piece, 100)
        self.check_left(answer, piece_of_node(node), [one[2] for one in all_nodes(node)], many)
        return answer[1]

    def test_lets_and_names_that_have_the_words_made_before(self):
        book = book_of(("s", "x", "[a=1][b=2]((a-b)-x)"))
        for wrap in (lambda word, piece: plus(name(word), piece),
                     lambda word, piece: let(word, num(1), plus(piece, name(word))),
                     lambda word, piece: plus(let(word, num(1), name(word)), piece),
                     lambda word, piece: stamp("s", plus(name(word), piece)),
                     lambda word, piece: let(word, name(word), stamp("s", piece))):
            piece = stamp("s", plus(name("a"), name("b")))
            made = []
            while len(made) < 12:
                words = [word for word in words_of_lets(self.check_by_rewriting(book, piece)) if word not in made]
                word = words[0] if words else "a" * (2 + len(made))
                made.append(word)
                piece = wrap(word, piece)

    def test_outside_names_of_bodies_that_have_the_words_made_before(self):
        text = read("[a=1][a=2]s{[a=3]a}")
        body = read("[a=4](x-a)")
        for count in range(12):
            left = self.check_by_rewriting([("s", ["x"], body)], text)
            word = words_of_lets(left)[count % 3 + 1]
            body = plus(name(word), body)

    def test_every_short_word_is_an_outside_name(self):
        letters = "abcdefghijklmnopqrstuvwxyz"
        for words in (list(letters), list(letters) + ["a" + letter for letter in letters]):
            outside = num(0)
            for word in words:
                outside = plus(outside, name(word))
            self.check_by_rewriting(book_of(("s", "x", "[a=1](a-[b=2](a-(b-x)))")), stamp("s", outside))
            book = book_of(("s", "x", "[a=1](a-[b=2](a-(b-x)))")) + [("t", [], outside)]
            self.check_by_rewriting(book, read("[a=1]s{(t{}-a)}"))

    def test_many_lets_of_one_word(self):
        book = book_of(("s", "x", "[a=x](a-x)"))
        self.check_by_rewriting(book, read("[a=a]" * 40 + "s{s{s{a}}}"))
        self.check_by_rewriting(book, read("s{[a=a]s{[a=a]s{[a=a]a}}}"))


class HowMany(Checked):
    def test_stamps_without_end(self):
        for line in ("s{}", "(1+s{})", "(s{}+1)", "[a=s{}]1", "[a=1]s{}", "(1?2:s{})", "(0?s{}:2)"):
            self.endless([("s", "", line)], "s{}")
        for line in ("s{x}", "s{(x+x)}", "(x+s{(x+x)})", "(s{(x+x)}+x)", "s{s{x}}", "(s{s{x}}-s{x})",
                     "[a=x]s{(a+(x+a))}", "((((x+x)+(x+x))+((x+x)+x))+s{(x+x)})", "(s{x}+s{x})"):
            self.endless([("s", "x", line)], "s{1}")
            self.endless([("s", "x", line), ("t", "", "4")], "s{(t{}+t{})}")
        self.endless([("s", "x", "t{s{x}}"), ("t", "y", "y")], "s{1}")
        self.endless([("s", "x", "(x+t{s{((x+x)+(x+x))}})"), ("t", "y", "y")], "s{1}")
        self.endless([("s", "x", "(t{s{((x+x)+(x+x))}}+x)"), ("t", "y", "(y+y)")], "s{1}")

    def test_stamps_that_use_one_another_without_end(self):
        self.endless([("s", "", "t{}"), ("t", "", "s{}")], "s{}")
        self.endless([("s", "", "t{}"), ("t", "", "s{}")], "t{}")
        self.endless([("s", "x", "(x+t{(x+x)})"), ("t", "y", "u{y,(y-y)}"), ("u", "a b", "s{(a-b)}")], "s{1}")
        self.endless([("s", "x", "t{x,s{x}}"), ("t", "x y", "(x+y)")], "s{1}")
        self.endless([("s", "x", "(1+2)"), ("t", "", "(s{1}+t{})")], "(s{1}+t{})")
        self.endless([("s", "", "1"), ("t", "", "t{}")], "(((s{}+s{})+t{})+s{})")

    def test_without_end_only_where_it_is_left_out(self):
        self.check([("s", "x", "1"), ("t", "", "s{t{}}")], "t{}", "1", "s:", 2)
        self.check([("s", "x", "1"), ("t", "", "t{}")], "s{t{}}", "1", "s:", 1)
        self.check([("s", "x y", "(y+y)"), ("t", "x", "s{t{x},x}")], "t{3}", "(3+3)", "s: :0 :0", 2)
        self.check([("s", "", "1"), ("t", "", "t{}")], "s{}", "1", "s:", 1)
        self.check([("s", "", "s{}")], "1", "1", ":", 0)

    def test_thirty_stamps_and_more(self):
        book = book_of(("s", "", "1"), ("t", "x", "(x+1)"))
        for many in (29, 30, 31, 45):
            beside = read("(" * (many - 1) + "s{}" + "-s{})" * (many - 1))
            within = read("t{" * many + "5" + "}" * many)
            self.check_fuel(book, beside, read("(" * (many - 1) + "1" + "-1)" * (many - 1)),
                            [("", (0,) * levels) for levels in range(many - 1)] + [("s", ())] * many, many)
            self.check_fuel(book, within, read("(" * many + "5" + "+1)" * many),
                            [("t", ())] * many + [("", (0,) * many)] + [("t", (1,))] * many, many)

    def test_fuel_far_beyond_what_is_needed(self):
        self.assertEqual(self.call(book_of(("s", "x", "(x+1)")), read("s{2}"), 10 ** 100),
                         ("done", read("(2+1)"), sources_of("s: :0 s:1"), 1))

    def test_the_answer_is_the_callers_own(self):
        book = book_of(("s", "x", "(x+x)"))
        answer = expanded(book, read("s{2}"), 1)
        answer[2].append("more")
        answer[2][0] = "other"
        self.assertEqual(expanded(book, read("s{2}"), 1)[2], sources_of("s: :0 :0"))


class LargeTexts(Checked):
    EIGHT = "(((x+x)+(x+x))+((x+x)+(x+x)))"

    def test_deep_texts_with_stamps(self):
        book = book_of(("s", "x y", "[a=x][b=y]([c=(a-b)](c?x:(y-c))-b)"), ("t", "x", "[a=(x+a)](a-x)"),
                       ("u", "", "[a=1]a"))
        self.assertEqual(max(size(body) for _, _, body in book), 16)
        wraps = [("(1+", ")"), ("(", "-a)"), ("[a=", "](a+1)"), ("[a=1]", ""), ("(0?1:", ")")]
        for levels in (50, 51, 70):
            for ahead, behind in wraps:
                line = ahead * (levels - 3) + "s{t{a},u{}}" + behind * (levels - 3)
                piece = read(line)
                self.assertEqual(depth(piece), levels)
                node, many = rewritten(book, piece, 30, random.Random(line))
                answer = self.call(book, piece, 30)
                self.check_left(answer, piece_of_node(node), [one[2] for one in all_nodes(node)], many)
        book = book_of(("t", "x", "[a=(x+1)](a-2)"))
        piece = read("t{" * 30 + "(1+" * 20 + "a" + ")" * 20 + "}" * 30)
        node, many = rewritten(book, piece, 30, random.Random(0))
        self.assertEqual(many, 30)
        self.check_left(self.call(book, piece, 30), piece_of_node(node), [one[2] for one in all_nodes(node)], many)

    def test_two_hundred_pieces_and_more_handed_to_a_stamp(self):
        for leaves in (98, 99, 120):
            line = "a"
            for at in range(leaves):
                line = f"({line}-{10 ** 119 + at})" if at % 5 else f"[a={line}]a"
            piece = stamp("s", read(line), read(line))
            book = book_of(("s", "x y", "[a=b](x-(a+y))"))
            self.assertGreater(size(piece), 200)
            node, many = rewritten(book, piece, 30, random.Random(0))
            self.check_left(self.call(book, piece, 1), piece_of_node(node), [one[2] for one in all_nodes(node)], 1)

    def test_pieces_that_grow_many_times(self):
        book = book_of(("s", "x", "t{" + self.EIGHT + "}"), ("t", "x", "u{" + self.EIGHT + "}"), ("u", "x", self.EIGHT))
        self.assertEqual(max(size(body) for _, _, body in book), 16)
        wide = read("(1+" * 40 + "[a=2]a" + ")" * 40)
        answer = self.call(book, stamp("u", stamp("s", wide)), 30)
        self.assertEqual(answer[0], "done")
        self.assertEqual(answer[3], 25)
        self.assertEqual(len(answer[2]), 8 * 8 ** 3 * size(wide) + 8 ** 4 - 1)
        self.assertEqual(len([source for source in answer[2] if source == ("", (0, 0))]), 8 ** 4)
        self.assertEqual(self.call(book, stamp("u", stamp("s", wide)), 24), ("more",))

    def test_pieces_that_would_grow_past_all_bounds(self):
        for fuel in (30, 31, 60):
            self.endless([("s", "x", f"(x+s{{{self.EIGHT}}})")], "s{(1+2)}", fuel)
            self.endless([("s", "x", f"t{{{self.EIGHT}}}"), ("t", "x", "(x+s{(x-x)})")], "s{(1+[a=2]a)}", fuel)
            self.endless([("s", "x", "t{(x+x),s{(x-x)}}"), ("t", "x y", "((x+x)-((x+x)+y))")], "s{1}", fuel)

    def test_a_text_far_deeper(self):
        book = book_of(("s", "x", "[a=1](x-a)"))
        for ahead, behind in (("(1+", ")"), ("[a=", "]a"), ("[a=1]", ""), ("(1?2:", ")")):
            piece = read(ahead * 1500 + "s{a}" + behind * 1500)
            answer = self.call(book, piece, 1)
            left = read(ahead * 1500 + "[b=1](a-b)" + behind * 1500)
            self.assertIs(same_but_words(answer[1], left), True)
            self.assertEqual(len(answer[2]), size(answer[1]))
            self.assertEqual(self.call(book, piece, 0), ("more",))


if __name__ == "__main__":
    unittest.main()
