"""What the program is held against: the document's words taken step by step, in a plain and slow way.

A node is a piece together with its source: a tuple (head, nodes within it, source).
"""

import functools
import itertools
import re

from making import inner_pieces


class TooLarge(Exception):
    pass


def head_of(piece):
    return tuple(part for part in piece if not isinstance(part, tuple))


def nodes_of(piece, home, path=()):
    inner = [nodes_of(part, home, path + (place,)) for place, part in enumerate(inner_pieces(piece))]
    return (head_of(piece), inner, (home, path))


def all_nodes(node):
    return [node] + [one for part in node[1] for one in all_nodes(part)]


def piece_of_node(node):
    return node[0] + tuple(piece_of_node(part) for part in node[1])


def with_own_lets(node, numbers, called):
    """The node with lets called as no word is, each otherwise, and with them the names that belong to them."""
    head, inner, source = node
    if head[0] == "name":
        return (("name", called.get(head[1], head[1])), inner, source)
    if head[0] == "let":
        word = f"{head[1]}#{next(numbers)}"
        one = with_own_lets(inner[0], numbers, called)
        other = with_own_lets(inner[1], numbers, {**called, head[1]: word})
        return (("let", word), [one, other], source)
    return (head, [with_own_lets(part, numbers, called) for part in inner], source)


def with_pieces(node, places):
    head, inner, source = node
    if head[0] == "name" and head[1] in places:
        return places[head[1]]
    return (head, [with_pieces(part, places) for part in inner], source)


def outermost_stamps(node, path=()):
    if node[0][0] == "stamp":
        return [path]
    return [found for place, part in enumerate(node[1]) for found in outermost_stamps(part, path + (place,))]


def node_at(node, path):
    return node_at(node[1][path[0]], path[1:]) if path else node


def with_node_at(node, path, new):
    if not path:
        return new
    head, inner, source = node
    changed = with_node_at(inner[path[0]], path[1:], new)
    return (head, inner[:path[0]] + [changed] + inner[path[0] + 1:], source)


def opened_once(stamps, node, numbers):
    word, places, body = stamps[node[0][1]]
    fresh = with_own_lets(nodes_of(body, word), numbers, {})
    return with_pieces(fresh, dict(zip(places, node[1])))


def rewritten(book, piece, fuel, source, most=3000):
    """(node, many), or None where more than fuel are opened. Which stamp comes next is left to chance,
    but for those in pieces that are handed in, which are opened where they come to stand."""
    stamps = {stamp[0]: stamp for stamp in book}
    numbers = itertools.count()
    node = with_own_lets(nodes_of(piece, ""), numbers, {})
    many = 0
    while True:
        found = outermost_stamps(node)
        if not found:
            return node, many
        many += 1
        if many > fuel:
            return None
        path = source.choice(found)
        node = with_node_at(node, path, opened_once(stamps, node_at(node, path), numbers))
        if len(all_nodes(node)) > most:
            raise TooLarge


def nameless(piece, lets=()):
    """The piece with the number of lets round it in the place of a let's word and of names that belong to it."""
    if piece[0] == "name":
        belongs = [level for level, word in enumerate(lets) if word == piece[1]]
        return ("belongs", belongs[-1]) if belongs else piece
    if piece[0] == "let":
        return ("let", nameless(piece[2], lets), nameless(piece[3], lets + (piece[1],)))
    return head_of(piece) + tuple(nameless(part, lets) for part in inner_pieces(piece))


def meant(book, piece, known):
    """The number that a piece with stamps means, without any of them being opened.

    Each word means a call that gives its number. A KeyError tells of an outside name without number."""
    stamps = {stamp[0]: stamp for stamp in book}

    def number_at(piece, calls):
        kind = piece[0]
        if kind == "number":
            return piece[1]
        if kind == "name":
            return calls[piece[1]]() if piece[1] in calls else known[piece[1]]
        if kind == "sum":
            return number_at(piece[1], calls) + number_at(piece[2], calls)
        if kind == "less":
            return number_at(piece[1], calls) - number_at(piece[2], calls)
        if kind == "choose":
            return number_at(piece[3] if number_at(piece[1], calls) == 0 else piece[2], calls)
        if kind == "let":
            number = number_at(piece[2], calls)
            return number_at(piece[3], {**calls, piece[1]: lambda: number})
        places, body = stamps[piece[1]][1:]
        return number_at(body, {place: lambda part=part: number_at(part, calls)
                                for place, part in zip(places, piece[2:])})

    return number_at(piece, {})


def readings(line):
    """All pieces that a line could be written for, by trying at each sign whatever may begin there."""

    @functools.lru_cache(maxsize=None)
    def pieces_from(at):
        found = []
        for end in range(at + 1, len(line) + 1):
            text = line[at:end]
            if not re.fullmatch(r"-?[0-9]*|[a-z]+\{?|\[[a-z]*=?", text):
                break
            if re.fullmatch("0|-?[1-9][0-9]*", text):
                found.append((("number", int(text)), end))
            if re.fullmatch("[a-z]+", text):
                found.append((("name", text), end))
            if re.fullmatch(r"[a-z]+\{", text):
                found += in_row(("stamp", text[:-1]), ["}"], end)
                many = 1
                while line.count(",", end) >= many - 1 and many < len(line):
                    found += in_row(("stamp", text[:-1]), ["", *[","] * (many - 1), "}"], end)
                    many += 1
            if re.fullmatch(r"\[[a-z]+=", text):
                found += in_row(("let", text[1:-1]), ["", "]", ""], end)
        if line[at:at + 1] == "(":
            found += in_row(("sum",), ["", "+", ")"], at + 1)
            found += in_row(("less",), ["", "-", ")"], at + 1)
            found += in_row(("choose",), ["", "?", ":", ")"], at + 1)
        return tuple(found)

    def in_row(head, signs, at):
        """A sign, a piece, a sign and so on, up to the last sign."""
        if not line.startswith(signs[0], at):
            return []
        at += len(signs[0])
        if len(signs) == 1:
            return [(head, at)]
        return [found for part, end in pieces_from(at) for found in in_row(head + (part,), signs[1:], end)]

    return [piece for piece, end in pieces_from(0) if end == len(line)]
